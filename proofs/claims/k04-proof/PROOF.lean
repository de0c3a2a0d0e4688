import PyProof.Rows.All
import Wide.All
import OpenK.AllK
import Wide.FinOn
import Lean
import PyProof.EqAt
import PyProof.EqKinds
import PyProof.TupleCall
import KE.KSortKey
import PyProof.ListMulRoad
import PyProof.Draws
import PyProof.EnumMake
import PyProof.ListNew
import KE.KRevIter
import KE.KMinKey
import PySem.Challenge.RW_benchdays_k04_costs_moved
set_option Elab.async false
set_option linter.all false
set_option maxRecDepth 100000
set_option compiler.extract_closed false
local macro_rules | `(tactic| omega) => `(tactic| first | lia | omega (config := {}))
namespace L2
open PySem PySem.Spec PyProof.Rows
noncomputable abbrev Key:=Sum Int Str
noncomputable def FD:Key->Value->Bool
  | .inl k,v=>Value.isInt k v
  | .inr x,v=>Value.isStrOf x v
noncomputable def Rr(w:World):Key->Int
  | .inl k=>hashInt k
  | .inr x=>hashStr w x
theorem BK:∀ {k:Key} {v:Value},FD k v=true->(∃ i t,k=Sum.inl i/\v=Value.int i t) ∨ (∃ x t,k=Sum.inr x/\v=Value.str x t)
  | .inl i,v,h=>by
    obtain⟨t,e⟩:=Value.isInt_shape (k:=i) (v:=v) h
    exact .inl ⟨i,t,rfl,e⟩
  | .inr x,v,h=>by
    obtain⟨t,e⟩:=Value.isStrOf_shape (x:=x) (v:=v) h
    exact .inr ⟨x,t,rfl,e⟩
theorem KN(i:Int)(t:Tok):FD (.inl i) (.int i t)=true:=by simp[FD,Value.isInt]
theorem KM(x:Str)(t:Tok):FD (.inr x) (.str x t)=true:=by simp[FD,Value.isStrOf]
theorem Po(a b:Int):decide ((Sum.inl a:Key)=Sum.inl b)=(a == b):=by
  by_cases e:a=b
  . subst e;simp
  . have h:¬ (Sum.inl a:Key)=Sum.inl b:=λ q=>e (Sum.inl.inj q)
    rw[decide_eq_false h]
    exact(beq_eq_false_iff_ne.mpr e).symm
theorem Pl(a b:Str):decide ((Sum.inr a:Key)=Sum.inr b)=decide (a=b):=by
  by_cases e:a=b
  . subst e;simp
  . have h:¬ (Sum.inr a:Key)=Sum.inr b:=λ q=>e (Sum.inr.inj q)
    rw[decide_eq_false h,decide_eq_false e]
theorem Pn(a:Int)(b:Str):decide ((Sum.inl a:Key)=Sum.inr b)=false:=decide_eq_false (λ q=>nomatch q)
theorem Pm(a:Str)(b:Int):decide ((Sum.inr a:Key)=Sum.inl b)=false:=decide_eq_false (λ q=>nomatch q)
noncomputable def B8(prog:Program)(w:World):PySem.KeyKind prog w Key where
  is:=FD
  hash:=Rr w
  inj:=λ v a b ha hb=>by
    rcases BK ha with⟨i,t,rfl,rfl⟩|⟨x,t,rfl,rfl⟩
    . rcases BK hb with⟨j,u,rfl,e⟩|⟨y,u,rfl,e⟩
      . injection e with e1 _;rw[e1]
      . exact nomatch e
    . rcases BK hb with⟨j,u,rfl,e⟩|⟨y,u,rfl,e⟩
      . exact nomatch e
      . injection e with e1 _;rw[e1]
  byValue:=λ k v h=>by
    rcases BK h with⟨i,t,rfl,rfl⟩|⟨x,t,rfl,rfl⟩ <;> rfl
  pyHash:=λ hv h=>by
    rcases BK hv with⟨i,t,rfl,rfl⟩|⟨x,t,rfl,rfl⟩
    . exact wpAny_pyHash_int h
    . exact wpAny_pyHash_str h
  eqBool:=λ hu hv h=>by
    rcases BK hu with⟨i,t,rfl,rfl⟩|⟨x,t,rfl,rfl⟩
    . rcases BK hv with⟨j,u,rfl,rfl⟩|⟨y,u,rfl,rfl⟩
      . rw[Po]at h;exact wpAny_eqBool_int h
      . rw[Pn]at h;exact SeqAt.EqAt.int_str i t y u _ _ _ _ h
    . rcases BK hv with⟨j,u,rfl,rfl⟩|⟨y,u,rfl,rfl⟩
      . rw[Pm]at h;exact SeqAt.EqAt.str_int x t j u _ _ _ _ h
      . rw[Pl]at h;exact wpAny_eqBool_str h
  «strs»:=λ k x t v h=>by
    rcases BK h with⟨i,u,rfl,e⟩|⟨y,u,rfl,e⟩
    . exact nomatch e
    . injection e with e1 _
      subst e1
      cases v <;> rfl
theorem IQ(prog:Program)(w:World)(i:Int)(t:Tok):(B8 prog w).is (.inl i) (.int i t)=true:=KN i t
theorem IP(prog:Program)(w:World)(x:Str)(t:Tok):(B8 prog w).is (.inr x) (.str x t)=true:=KM x t
end L2
namespace L2
open PySem PySem.Spec PyProof.Rows
inductive V where
  | non|bl (b:Bool)|int (i:Int)|str (x:Str)|byt (b:Array UInt8)|flt (b:UInt64)|ref (a:Addr)|ty (n:String)
  deriving DecidableEq
noncomputable def RelV:V->Value->Prop
  | .non,u=>u=Value.none
  | .bl b,u=>u=Value.bool b
  | .int i,u=>∃ t,u=Value.int i t
  | .str x,u=>∃ t,u=Value.str x t
  | .byt b,u=>∃ t,u=Value.bytes b t
  | .flt b,u=>∃ t,u=Value.float b t
  | .ref a,u=>u=Value.ref a
  | .ty n,u=>u=Value.type n
noncomputable abbrev Vals:List V->List Value->Prop:=Paired RelV
theorem Vals.length{xs:List V}{us:List Value}(r:Vals xs us):xs.length=us.length:=Paired.length r
theorem Vals.get:∀ {xs:List V} {us:List Value} {i:Nat} {x:V},Vals xs us->xs[i]? = some x->∃ u,us[i]? = some u/\RelV x u
  | _,_,_,_,.nil,e=>by simp at e
  | _,_,0,_,.cons r _,e=>by simp at e;subst e;exact⟨_,rfl,r⟩
  | _,_,i + 1,x,.cons _ t,e=>by
    obtain⟨u,h1,h2⟩:=Vals.get (i:=i) (x:=x) t (by simpa using e)
    exact⟨u,by simpa using h1,h2⟩
theorem Vals.set{x:V}{u:Value}(r:RelV x u):∀ {xs:List V} {us:List Value} (i:Nat),Vals xs us->Vals (xs.set i x) (us.set i u)
  | _,_,_,.nil=>.nil
  | _,_,0,.cons _ t=>.cons r t
  | _,_,i + 1,.cons q t=>.cons q (Vals.set r i t)
theorem Vals.append:∀ {xs ys:List V} {us ws:List Value},Vals xs us->Vals ys ws->Vals (xs ++ ys) (us ++ ws)
  | _,_,_,_,.nil,s=>s
  | _,_,_,_,.cons r t,s=>.cons r (Vals.append t s)
theorem Vals.take:∀ {xs:List V} {us:List Value} (n:Nat),Vals xs us->Vals (xs.take n) (us.take n)
  | _,_,0,_=>.nil
  | _,_,_ + 1,.nil=>.nil
  | _,_,n + 1,.cons r t=>.cons r (Vals.take n t)
theorem Vals.drop:∀ {xs:List V} {us:List Value} (n:Nat),Vals xs us->Vals (xs.drop n) (us.drop n)
  | _,_,0,r=>r
  | _,_,_ + 1,.nil=>.nil
  | _,_,n + 1,.cons _ t=>Vals.drop n t
noncomputable def RelO:Option V->Option Value->Prop
  | some v,some u=>RelV v u
  | none,none=>True
  | _,_=>False
noncomputable def KV{κ:Type}:List (κ × V)->List (κ × Value)->Prop:=Paired λ(p:κ × V) (q:κ × Value)=>p.1=q.1/\RelV p.2 q.2
noncomputable def kV:Key->V
  | .inl i=>.int i
  | .inr x=>.str x
inductive HO where
  /-- a list -/
  | lst (xs:List V)
  /-- a tuple (never changes) -/
  | tup (xs:List V)
  /-- a dict whose keys are ints and texts;one whose keys are tuples of ints and texts (the empty one is both) -/
  | dK (kvs:List (Key × V))|dT (kvs:List (List Key × V))
  /-- a set of ints: its members,its size -/
  | set (S:Int->Bool) (n:Nat)
  /-- an instance of the class at C,its dict at dx,its attributes -/
  | ins (C dx:Addr) (fs:List (Str × V))
  /-- the dict of the instance at x -/
  | own (x:Addr)
  /-- the dict of an exception -/
  | xd (fs:List (Str × V))
  /-- a bound method,f of x -/
  | met (f x:Addr)
  /-- a range object lo,lo + 1,.. below hi -/
  | rng (lo hi:Int)
  /-- a thing that is known to the object (the script;a dict while a loop walks it): read,never written while it is so -/
  | frz (o:Obj) (u:HO)
  /-- a code object's table -/
  | tbl (ps:Array Value)
  /-- any other thing,by what is true of its one object (a def of one's own: SetO a S n:=HO.ext λ h=>..) -/
  | ext (φ:Heap->Prop)
noncomputable abbrev Hp:=Addr->Option HO
noncomputable def upd(H:Hp)(a:Addr)(o:HO):Hp:=λ b=>if b=a then some o else H b
theorem AQ{H:Hp}{a:Addr}{o:HO}:upd H a o a=some o:=by unfold upd;rw[if_pos rfl]
theorem AI{H:Hp}{a b:Addr}{o:HO}(h:b ≠ a):upd H a o b=H b:=by unfold upd;rw[if_neg h]
theorem Qt{H:Hp}{a b:Addr}{o u:HO}(h:H a=some o)(h':H b=some u)(d:o ≠ u):a ≠ b:=by
  intro e;subst e;rw[h]at h';exact d (Option.some.inj h')
theorem Aa{H:Hp}{a b:Addr}{o:HO}(h:H a=some o)(h':H b=none):a ≠ b:=by
  intro e;subst e;rw[h]at h';cases h'
noncomputable def IsTupD(h:Heap)(a:Addr)(items:Array Value):Prop:=∃ o,h.get? a=some o/\o.cls=.type "tuple"/\(∃ n,o.data=.seq items n)/\o.dict=none
theorem IsTupD.t{h:Heap}{a:Addr}{items:Array Value}(x:IsTupD h a items):IsTup h a items:=let ⟨o,e,c,d,_⟩:=x;⟨o,e,c,d⟩
theorem IsTupD.new(h:Heap)(items:Array Value):IsTupD (h.push { cls:=.type "tuple",data:=.seq items }) h.objs.size items:=⟨_,Heap.get?_push_size _ rfl,rfl,⟨_,rfl⟩,rfl⟩
section
variable(P:Program)(w:World)
noncomputable def ObjOk(H:Hp)(h:Heap)(a:Addr):HO->Prop
  | .lst xs=>xs.length <= sizeLine/\∃ (its:List Value) (n:Nat),Vals xs its/\h.get? a=some { cls:=.type "list",data:=.seq its.toArray n }
  | .tup xs=>xs.length <= sizeLine/\∃ its:List Value,Vals xs its/\IsTupD h a its.toArray
  | .dK kvs=>kvs.length <= sizeLine/\(a == sysModules)=false/\∃ vs,KV kvs vs/\h.DictOf (B8 P w) a vs
  | .dT kvs=>kvs.length <= sizeLine/\(a == sysModules)=false/\∃ xs:List (List Key × Addr × Value),
      Paired (λ(p:List Key × V) (q:List Key × Addr × Value)=>p.1=q.1/\H q.2.1=some (.tup (p.1.map kV))/\RelV p.2 q.2.2) kvs xs /\
      ∃ o es ep,h.get? a=some o/\o.ExactDict/\o.data=.dict es ep/\es.toList=xs.map (entryOfKey (tupleKind (B8 P w)))/\(xs.map (·.1)).Nodup
  | .set S n=>h.SetOf (intKind P w) a S n
  | .ins C dx fs=>H dx=some (.own a)/\fs.length <= 1000/\dx ≠ a/\h.get? a=some (PySem.W.instObj C dx) /\
      ∃ mA,h.Ns1 dx mA/\(∀ f,RelO (fs.lookup f) (mA f))/\PySem.Within mA (fs.map (·.1))
  | .own _=>∃ o,h.get? a=some o
  | .xd fs=>∃ mA,h.Ns1 a mA/\∀ f,RelO (fs.lookup f) (mA f)
  | .rng lo hi=>∃ t u v,h.get? a=some { cls:=.type "range",data:=.fields #[.int lo t,.int hi u,.int 1 v] }
  | .frz o u=>h.get? a=some o/\ObjOk H h a u
  | .tbl ps=>h.get? a=some { cls:=.none,data:=.fields ps }
  | .met f x=>h.get? a=some (PySem.W.methodObj (.ref f) (.ref x))
  | .ext φ=>φ h/\(∃ o,h.get? a=some o)/\∀ h1 h2:Heap,φ h1->(∀ o,h1.get? a=some o->h2.get? a=some o)->φ h2
noncomputable def HOk(H:Hp)(h:Heap):Prop:=∀ a o,H a=some o->ObjOk P w H h a o
end
section
variable{P:Program}{w:World}{H H':Hp}{h h':Heap}{a:Addr}{o:HO}
theorem ObjOk.lt(x:ObjOk P w H h a o):a < h.objs.size:=by
  cases o with
  | lst xs=>obtain⟨_,_,_,_,e⟩:=x;exact Heap.lt_size e
  | tup xs=>obtain⟨_,_,_,o,e,_⟩:=x;exact Heap.lt_size e
  | dK kvs=>obtain⟨_,_,_,_,o,_,_,e,_⟩:=x;exact Heap.lt_size e
  | dT kvs=>obtain⟨_,_,_,_,o,_,_,e,_⟩:=x;exact Heap.lt_size e
  | set S n=>obtain⟨o,_,_,_,e,_⟩:=x;exact Heap.lt_size e
  | ins C dx fs=>obtain⟨_,_,_,e,_⟩:=x;exact Heap.lt_size e
  | own y=>obtain⟨_,e⟩:=x;exact Heap.lt_size e
  | xd fs=>obtain⟨_,⟨_,_,_,e,_⟩,_⟩:=x;exact Heap.lt_size e
  | rng lo hi=>obtain⟨_,_,_,e⟩:=x;exact Heap.lt_size e
  | frz ob u=>obtain⟨e,_⟩:=x;exact Heap.lt_size e
  | tbl ps=>exact Heap.lt_size (show h.get? a=some _ from x)
  | met f y=>exact Heap.lt_size (show h.get? a=some _ from x)
  | ext φ=>obtain⟨_,⟨_,e⟩,_⟩:=x;exact Heap.lt_size e
theorem Paired.mapP{α β:Type}{F G:α->β->Prop}:∀ {l₁:List α} {l₂:List β},Paired F l₁ l₂->(∀ a b,F a b->G a b)->Paired G l₁ l₂
  | _,_,.nil,_=>.nil
  | _,_,.cons r t,f=>.cons (f _ _ r) (Paired.mapP t f)
theorem ObjOk.stay(x:ObjOk P w H h a o)(k:∀ b u,(b=a ∨ H b=some (.own a))->h.get? b=some u->h'.get? b=some u)
    (ho:∀ b,H b=some (.own a)->H' b=some (.own a)) (ht:∀ b xs,H b=some (.tup xs)->H' b=some (.tup xs)):ObjOk P w H' h' a o:=by
  induction o with
  | lst xs=>obtain⟨z,its,n,r,e⟩:=x;exact⟨z,its,n,r,k _ _ (.inl rfl) e⟩
  | tup xs=>obtain⟨z,its,r,ob,e,c⟩:=x;exact⟨z,its,r,ob,k _ _ (.inl rfl) e,c⟩
  | dK kvs=>obtain⟨z,y,vs,r,ob,es,ep,e,c⟩:=x;exact⟨z,y,vs,r,ob,es,ep,k _ _ (.inl rfl) e,c⟩
  | dT kvs=>
    obtain⟨z,y,xs,r,ob,es,ep,e,c⟩:=x
    exact⟨z,y,xs,Paired.mapP r λ p q z=>⟨z.1,ht _ _ z.2.1,z.2.2⟩,ob,es,ep,k _ _ (.inl rfl) e,c⟩
  | set S n=>obtain⟨ob,es,ep,t,e,c⟩:=x;exact⟨ob,es,ep,t,k _ _ (.inl rfl) e,c⟩
  | ins C dx fs=>
    obtain⟨d,z,ne,e,mA,⟨od,es,ep,e2,c⟩,r⟩:=x
    exact⟨ho _ d,z,ne,k _ _ (.inl rfl) e,mA,⟨od,es,ep,k _ _ (.inr d) e2,c⟩,r⟩
  | own y=>obtain⟨ob,e⟩:=x;exact⟨ob,k _ _ (.inl rfl) e⟩
  | xd fs=>obtain⟨mA,⟨od,es,ep,e,c⟩,r⟩:=x;exact⟨mA,⟨od,es,ep,k _ _ (.inl rfl) e,c⟩,r⟩
  | rng lo hi=>obtain⟨t,u,v,e⟩:=x;exact⟨t,u,v,k _ _ (.inl rfl) e⟩
  | frz ob u ih=>obtain⟨e,q⟩:=x;exact⟨k _ _ (.inl rfl) e,ih q⟩
  | tbl ps=>
    have e:h.get? a=some { cls:=.none,data:=.fields ps }:=x
    show h'.get? a=some { cls:=.none,data:=.fields ps }
    exact k a _ (.inl rfl) e
  | met f y=>
    have e:h.get? a=some (PySem.W.methodObj (.ref f) (.ref y)):=x
    show h'.get? a=some (PySem.W.methodObj (.ref f) (.ref y))
    exact k a _ (.inl rfl) e
  | ext φ=>obtain⟨p,⟨o,e⟩,st⟩:=x;exact⟨st _ _ p λ o q=>k _ _ (.inl rfl) q,⟨o,k _ _ (.inl rfl) e⟩,st⟩
theorem HOk.lt(x:HOk P w H h)(e:H a=some o):a < h.objs.size:=(x a o e).lt
theorem HOk.fresh(x:HOk P w H h)(e:h.objs.size <= a):H a=none:=by
  cases q:H a with
  | none=>rfl
  | some u=>exact absurd (Nat.lt_of_lt_of_le (x.lt q) e) (Nat.lt_irrefl _)
theorem HOk.kept(x:HOk P w H h)(k:∀ b u,h.get? b=some u->h'.get? b=some u):HOk P w H h':=λ a o e=>
  (x a o e).stay (λ b u _ q=>k b u q) (λ _ q=>q) λ _ _ q=>q
theorem HOk.laid(x:HOk P w H h)(k:∀ b u,h.get? b=some u->h'.get? b=some u)(hp:h.objs.size <= a)(new:ObjOk P w (upd H a o) h' a o):HOk P w (upd H a o) h':=λ b u e=>by
  have hn:=x.fresh hp
  by_cases hb:b=a
  . subst hb;rw[AQ]at e;cases e;exact new
  . rw[AI hb]at e
    exact(x b u e).stay (λ c v _ q=>k c v q) (λ c q=>by rw[AI (Aa q hn)];exact q) λ c xs q=>by rw[AI (Aa q hn)];exact q
end
noncomputable def Rd(H:Hp)(a:Addr)(u:HO):Prop:=H a=some u ∨ ∃ o,H a=some (.frz o u)
theorem Rd.ok{P:Program}{w:World}{H:Hp}{h:Heap}{a:Addr}{u:HO}(r:Rd H a u)(x:HOk P w H h):ObjOk P w H h a u:=by
  rcases r with r|⟨o,r⟩
  . exact x a u r
  . obtain⟨_,q⟩:=x a _ r
    exact q
noncomputable def Mut:Option HO->Prop
  | some (.lst _)=>True
  | some (.dK _)=>True
  | some (.dT _)=>True
  | some (.set _ _)=>True
  | some (.ins _ _ _)=>True
  | some (.ext _)=>True
  | _=>False
section
variable{P:Program}{w:World}{H:Hp}{h h':Heap}{x e:Addr}{o':HO}
theorem HOk.write(ok:HOk P w H h)(mu:Mut (H x))(he:e=x ∨ H e=some (.own x))(k:∀ b u,b ≠ e->h.get? b=some u->h'.get? b=some u)(heo:∃ u,h'.get? e=some u)
    (new:ObjOk P w (upd H x o') h' x o'):HOk P w (upd H x o') h':=λ b u q=>by
  have nown:∀ c y,H c=some (.own y)->c ≠ x:=λ c y r z=>by subst z;rw[r]at mu;exact mu
  have ntup:∀ c xs,H c=some (.tup xs)->c ≠ x:=λ c xs r z=>by subst z;rw[r]at mu;exact mu
  by_cases hb:b=x
  . subst hb;rw[AQ]at q;cases q;exact new
  . rw[AI hb]at q
    by_cases hbe:b=e
    . have q':H b=some (.own x):=by
        rcases he with z|z
        . exact absurd (hbe.trans z) hb
        . rw[hbe];exact z
      rw[q]at q';cases q'
      obtain⟨v,hv⟩:=heo
      exact⟨v,by rw[hbe];exact hv⟩
    . refine(ok b u q).stay (λ c v hc r=>k c v ?_ r) (λ c r=>by rw[AI (nown c b r)];exact r) λ c xs r=>by rw[AI (ntup c xs r)];exact r
      rcases hc with rfl|hc
      . exact hbe
      . rintro rfl
        rcases he with z|z
        . exact nown c b hc z
        . rw[hc]at z;cases z;exact hb rfl
end
structure Un(fs ex:List Addr)(H H':Hp)(h h':Heap):Prop where
  keep:∀ b o,h.get? b=some o->H b=none->b ∉ fs->b ∉ ex->h'.get? b=some o
  slot:∀ b o,h.get? b=some o->H b=none->b ∈ fs->b ∉ ex->∃ sl,h'.get? b=some { o with slots:=sl }
  free:∀ b o,h.get? b=some o->H b=none->b ∉ ex->H' b=none
  there:∀ b o,h.get? b=some o->b ∉ ex->∃ o',h'.get? b=some o'
  tups:∀ b xs,H b=some (.tup xs)->H' b=some (.tup xs)
  frzs:∀ b o u,H b=some (.frz o u)->H' b=some (.frz o u)
  tbls:∀ b ps,H b=some (.tbl ps)->∃ more,H' b=some (.tbl (ps ++ more))
section
variable{fs fs' ex ex':List Addr}{H H1 H2:Hp}{h h1 h2 h':Heap}{a x e:Addr}{o:HO}
theorem Un.any(u:Un fs ex H H1 h h1){b:Addr}{ob:Obj}(q:h.get? b=some ob)(n:H b=none)(hx:b ∉ ex):∃ sl,h1.get? b=some { ob with slots:=sl }:=by
  by_cases hb:b ∈ fs
  . exact u.slot b ob q n hb hx
  . exact⟨ob.slots,u.keep b ob q n hb hx⟩
theorem Un.kept(k:∀ b u,h.get? b=some u->h'.get? b=some u):Un fs ex H H h h':=
  ⟨λ b ob q _ _ _=>k b ob q,λ b ob q _ _ _=>⟨ob.slots,k b ob q⟩,λ _ _ _ n _=>n,λ b ob q _=>⟨ob,k b ob q⟩,λ _ _ q=>q,λ _ _ _ q=>q,λ _ ps q=>⟨#[],by rw[q];simp⟩⟩
theorem Un.refl:Un fs ex H H h h:=Un.kept λ _ _ q=>q
theorem Un.laid(k:∀ b u,h.get? b=some u->h'.get? b=some u)(hp:h.objs.size <= a)(hn:H a=none):Un fs ex H (upd H a o) h h' where
  keep:=λ b u q _ _ _=>k b u q
  slot:=λ b u q _ _ _=>⟨u.slots,k b u q⟩
  free:=λ b u q n _=>by rw[AI (Nat.ne_of_lt (Nat.lt_of_lt_of_le (Heap.lt_size q) hp))];exact n
  there:=λ b u q _=>⟨u,k b u q⟩
  tups:=λ b xs q=>by rw[AI (Aa q hn)];exact q
  frzs:=λ b u xs q=>by rw[AI (Aa q hn)];exact q
  tbls:=λ b ps q=>⟨#[],by rw[AI (Aa q hn),q];simp⟩
theorem Un.write(mu:Mut (H x))(he:e=x ∨ H e=some (.own x))(k:∀ b u,b ≠ e->h.get? b=some u->h'.get? b=some u)(heo:∃ u,h'.get? e=some u):Un fs ex H (upd H x o) h h':=by
  have hx:∀ b,H b=none->b ≠ x:=λ b n z=>by subst z;rw[n]at mu;exact mu
  have hb:∀ b,H b=none->b ≠ e:=λ b n z=>by
    subst z
    rcases he with r|r
    . exact hx b n r
    . rw[n]at r;cases r
  have hm:∀ b u,H b=some u->¬ Mut (some u)->b ≠ x:=λ b u q nm z=>by subst z;rw[q]at mu;exact nm mu
  refine⟨λ b u q n _ _=>k b u (hb b n) q,λ b u q n _ _=>⟨u.slots,k b u (hb b n) q⟩,λ b u q n _=>by rw[AI (hx b n)];exact n,λ b u q _=>?_,
    λ b xs q=>by rw[AI (hm b _ q λ z=>z)];exact q,λ b u xs q=>by rw[AI (hm b _ q λ z=>z)];exact q,λ b ps q=>⟨#[],by rw[AI (hm b _ q λ z=>z),q];simp⟩⟩
  by_cases hbe:b=e
  . subst hbe;exact heo
  . exact⟨u,k b u hbe q⟩
end
noncomputable def trk(h:Heap)(H:Hp):List Addr:=(List.range h.objs.size).filter λ a=>(H a).isSome
noncomputable def EF(h:Heap)(H:Hp):Heap:=PySem.W.hideAll h (trk h H)
theorem KP(h:Heap)(H:Hp):(EF h H).objs.size=h.objs.size:=PySem.W.hideAll_size _ _
theorem Lp{h:Heap}{H:Hp}{b:Addr}{o:Obj}(e:h.get? b=some o)(n:H b=none):(EF h H).get? b=some o:=
  PySem.W.hideAll_get _ e λ hm=>by
    have q:(H b).isSome=true:=(List.mem_filter.mp hm).2
    rw[n]at q;simp at q
theorem Nw{h:Heap}{H:Hp}{b:Addr}{o:Obj}(e:(EF h H).get? b=some o):h.get? b=some o/\H b=none:=by
  have e':h.get? b=some o:=PySem.W.of_hideAll (trk h H) e
  refine⟨e',?_⟩
  cases q:H b with
  | none=>rfl
  | some x=>
    have hm:b ∈ trk h H:=List.mem_filter.mpr ⟨List.mem_range.mpr (Heap.lt_size e'),by simp[q]⟩
    have z:(EF h H).get? b=none:=PySem.W.hideAll_none (trk h H) hm
    rw[z]at e;cases e
noncomputable def OO(g h:Heap)(L:Addr):List (Addr × Obj):=(List.range h.objs.size).filterMap λ a=>if a=L ∨ (g.get? a).isSome=true then none else(h.get? a).map λ o=>(a,o)
noncomputable def rest(g h:Heap)(L d:Addr):List (Addr × Obj):=(OO g h L).filter λ p=>decide (p.1 ≠ d)
end L2
namespace L2
open PySem PySem.Spec PyProof.Rows
structure Mod(K:PySem.W.Frag)(mg:Str->Option Value)(base:Heap):Prop where
  kin:K.In base
  glob:base.Ns mainGlobals mg
  blt:∃ mb,base.Ns builtinsNs mb/\∀ x:Str,x ≠ "__name__"->mb x=bootBuiltins x
  nolimit:base.NoLimit
structure Cx where
  prog:Program
  w:World
  K:PySem.W.Frag
  mg:Str->Option Value
  base:Heap
  A:Around
  N:List Str
  s₀:Shared
  H₀:Hp
  env:Env
  outer:List Env
  stack:List Env
  ex:List Addr
  fn:Str->Bool
  calm:Bool
  pn:List (Addr × Obj)
  xe:Value->Shared->Prop
noncomputable def frs(l:List Env):List Addr:=l.filterMap (·.frame)
noncomputable abbrev Cx.fs(X:Cx):List Addr:=frs X.outer
noncomputable def Vis(sc:Scope)(x:Str):Prop:=sc.names.lookup x=some .local ∨ sc.names.lookup x=some .cell ∨ sc.names.lookup x=some .free
noncomputable def Loc(sc:Scope)(x:Str):Prop:=sc.names.lookup x=some .local ∨ sc.names.lookup x=some .cell
noncomputable def S5(env:Env)(h:Heap)(m:Str->Option Value)(x:Str)(u:Value):Prop:=
  (env.kindOf x=some .local/\m x=some u) ∨ ((env.kindOf x=some .cell ∨ env.kindOf x=some .free)/\∃ c,env.cells.lookup x=some c/\h.IsCell c (some u))
structure Cx.Ok(X:Cx):Prop where
  mod:Mod X.K X.mg X.base
  kind:X.env.scope.kind=.function
  glob:X.env.globals=mainGlobals
  blt:X.env.builtins=builtinsNs
  above:X.s₀.heap.objs.size <= X.env.locals
  inj:∀ x y c,X.env.cells.lookup x=some c->X.env.cells.lookup y=some c->x=y
  has:∀ x,(X.env.kindOf x=some .cell ∨ X.env.kindOf x=some .free)->∃ c,X.env.cells.lookup x=some c
  cab:∀ x c,X.fn x=true->X.env.cells.lookup x=some c->X.s₀.heap.objs.size <= c
  hd:X.calm=true->X.A.handled=none
  frames:X.A.frames=some X.stack
  stk:X.stack=X.outer ∨ (X.stack=X.env :: X.outer/\X.env.frame=some X.env.locals)
  exf:∀ b ∈ X.ex,b ≠ X.env.locals/\∀ x c,X.env.cells.lookup x=some c->c ≠ b
  bs:∀ b o,X.base.get? b=some o->X.s₀.heap.get? b=some o/\X.H₀ b=none
  bsz:X.base.objs.size <= X.s₀.heap.objs.size
  noex:∀ b o,X.base.get? b=some o->b ∉ X.ex
  exfs:∀ b ∈ X.ex,b ∉ X.fs
  funs:X.s₀.heap.FunFrames X.base X.outer
  frf:∀ b ∈ X.fs,X.H₀ b=none
structure Inv(X:Cx)(pins:List (Addr × Obj))(σ:List (Option V))(H:Hp)(s:Shared):Prop where
  ok:X.Ok
  os:s.os=X.s₀.os
  bare:AllBare s.gens
  base:Un X.fs X.ex X.H₀ H X.s₀.heap s.heap
  loc:∃ m,s.heap.Ns X.env.locals m/\∀ (i:Nat) (x:Str) (v:V),X.N[i]? = some x->σ[i]? = some (some v)->Vis X.env.scope x->∃ u,RelV v u/\S5 X.env s.heap m x u
  cell:∀ x c,X.env.cells.lookup x=some c->∃ v,s.heap.IsCell c v
  free:H X.env.locals=none
  freeC:∀ x c,X.env.cells.lookup x=some c->H c=none
  pin:∀ p ∈ X.pn ++ pins,s.heap.get? p.1=some p.2/\H p.1=none/\p.1 ≠ X.env.locals/\p.1 ∉ X.fs/\∀ v,p.2.data ≠ .cell v
  hok:HOk X.prog X.w H s.heap
  len:σ.length=X.N.length
section
variable{X:Cx}{pins:List (Addr × Obj)}{σ:List (Option V)}{H H':Hp}{s:Shared}{h':Heap}
theorem Cx.Ok.nofr(ok:X.Ok){b:Addr}{o:Obj}(e:X.base.get? b=some o):b ∉ X.fs:=λ hb=>by
  have:=(ok.funs.mem hb).1
  rw[e]at this;cases this
theorem Inv.bs(I:Inv X pins σ H s):∀ b o,X.base.get? b=some o->s.heap.get? b=some o/\H b=none:=λ b o e=>
  ⟨I.base.keep b o (I.ok.bs b o e).1 (I.ok.bs b o e).2 (I.ok.nofr e) (I.ok.noex b o e),I.base.free b o (I.ok.bs b o e).1 (I.ok.bs b o e).2 (I.ok.noex b o e)⟩
theorem Inv.bk(I:Inv X pins σ H s):∀ b o,X.base.get? b=some o->s.heap.get? b=some o:=λ b o e=>(I.bs b o e).1
theorem Inv.mod(I:Inv X pins σ H s):Mod X.K X.mg X.base:=I.ok.mod
theorem Inv.kIn(I:Inv X pins σ H s):X.K.In s.heap:=I.ok.mod.kin.keeps I.bk
theorem Inv.fr(I:Inv X pins σ H s):∃ m,Fr X.base X.env.locals s.heap m:=
  let ⟨m,hn,_⟩:=I.loc
  ⟨m,hn,I.bk,Nat.le_trans I.ok.bsz I.ok.above⟩
theorem Inv.lt(I:Inv X pins σ H s):X.env.locals < s.heap.objs.size:=let ⟨_,hn,_⟩:=I.loc;hn.lt
theorem Inv.sz(I:Inv X pins σ H s):X.s₀.heap.objs.size <= s.heap.objs.size:=Nat.le_trans I.ok.above (Nat.le_of_lt I.lt)
theorem Inv.nofs(I:Inv X pins σ H s){a:Addr}(h:s.heap.objs.size <= a):a ∉ X.fs:=λ hb=>by
  obtain⟨_,o,ho,_⟩:=I.ok.funs.mem hb
  exact absurd (Nat.lt_of_lt_of_le (Heap.lt_size ho) (Nat.le_trans I.sz h)) (Nat.lt_irrefl _)
theorem Inv.cne(I:Inv X pins σ H s):∀ x c,X.env.cells.lookup x=some c->c ≠ X.env.locals:=λ x c e z=>by
  obtain⟨v,o,ho,hd⟩:=I.cell x c e
  obtain⟨m,⟨o',es,ep,ho',hd',_⟩,_⟩:=I.loc
  rw[z,ho']at ho;cases ho;rw[hd']at hd;cases hd
theorem Inv.funs(I:Inv X pins σ H s):s.heap.FunFrames X.base X.outer:=by
  have all:∀ (l:List Env),(∀ b ∈ frs l,b ∈ X.fs)->X.s₀.heap.FunFrames X.base l->s.heap.FunFrames X.base l:=by
    intro l
    induction l with
    | nil=>intro _ _;trivial
    | cons env r ih=>
      intro hs hl
      obtain⟨hk,⟨L,o,hf,hn,ho,hd⟩,hr⟩:=hl
      have hL:L ∈ X.fs:=hs L (by unfold frs;rw[List.filterMap_cons,hf];exact List.mem_cons_self)
      obtain⟨sl,e⟩:=I.base.slot L o ho (I.ok.frf L hL) hL λ z=>I.ok.exfs L z hL
      exact⟨hk,⟨L,_,hf,hn,e,hd⟩,ih (λ b hb=>hs b (by unfold frs;rw[List.filterMap_cons,hf];exact List.mem_cons_of_mem _ hb)) hr⟩
  exact all X.outer (λ _ hb=>hb) I.ok.funs
theorem Inv.stack(I:Inv X pins σ H s):s.heap.FunFrames X.base X.stack:=by
  rcases I.ok.stk with e|⟨e,hf⟩
  . rw[e];exact I.funs
  . rw[e]
    obtain⟨m,hn,_⟩:=I.loc
    refine .cons (by rw[I.ok.kind];decide) hf hn ?_ I.funs
    exact Heap.get?_none_of_le (Nat.le_trans I.ok.bsz I.ok.above)
theorem Inv.stkSub(I:Inv X pins σ H s):∀ b ∈ frs X.stack,b ∈ X.env.locals :: X.fs:=λ b hb=>by
  rcases I.ok.stk with e|⟨e,hf⟩
  . rw[e]at hb;exact List.mem_cons_of_mem _ hb
  . rw[e]at hb
    unfold frs at hb
    rw[List.filterMap_cons,hf]at hb
    exact hb
theorem Inv.stkFree(I:Inv X pins σ H s):∀ b ∈ frs X.stack,H b=none:=λ b hb=>by
  rcases List.mem_cons.mp (I.stkSub b hb)with e|hb
  . rw[e];exact I.free
  . obtain⟨_,o,ho,_⟩:=I.ok.funs.mem hb
    exact I.base.free b o ho (I.ok.frf b hb) λ z=>I.ok.exfs b z hb
theorem Inv.step{g':Array GenState}{t':Nat}{d':Drawn}{ch:List Addr}(I:Inv X pins σ H s)
    (hch:∀ b ∈ ch,(b ∈ X.ex ∨ X.s₀.heap.objs.size <= b)/\b ≠ X.env.locals/\(∀ x c,X.env.cells.lookup x=some c->c ≠ b)/\∀ p ∈ X.pn ++ pins,p.1 ≠ b)
    (keep:∀ b o,b ≠ X.env.locals->b ∉ X.fs->b ∉ ch->s.heap.get? b=some o->H b=none->h'.get? b=some o)
    (slot:∀ b o,b ≠ X.env.locals->b ∈ X.fs->b ∉ ch->s.heap.get? b=some o->H b=none->∃ sl,h'.get? b=some { o with slots:=sl }) (free:∀ b o,b ∉ ch->s.heap.get? b=some o->H b=none->H' b=none)
    (there:∀ b o,b ∉ ch->s.heap.get? b=some o->∃ o',h'.get? b=some o')
    (tups:∀ b xs,H b=some (.tup xs)->H' b=some (.tup xs)) (frzs:∀ b o u,H b=some (.frz o u)->H' b=some (.frz o u)) (tbls:∀ b ps,H b=some (.tbl ps)->∃ more,H' b=some (.tbl (ps ++ more)))
    (ns:∀ m,s.heap.Ns X.env.locals m->h'.Ns X.env.locals m) (hok:HOk X.prog X.w H' h') (hg:AllBare g') :
    Inv X pins σ H' { s with heap:=h',gens:=g',drawn:=d',toks:=t' }:=by
  have neL:∀ b o,X.s₀.heap.get? b=some o->b ≠ X.env.locals:=λ b o e=>Nat.ne_of_lt (Nat.lt_of_lt_of_le (Heap.lt_size e) I.ok.above)
  have neC:∀ b o,X.s₀.heap.get? b=some o->b ∉ X.ex->b ∉ ch:=λ b o e hx hb=>by
    rcases(hch b hb).1 with z|z
    . exact hx z
    . exact absurd (Nat.lt_of_lt_of_le (Heap.lt_size e) z) (Nat.lt_irrefl _)
  have cellK:∀ x c,X.env.cells.lookup x=some c->∀ v,s.heap.IsCell c v->h'.IsCell c v:=λ x c e v ⟨o,ho,hd⟩=>by
    have nch:c ∉ ch:=λ z=>(hch c z).2.2.1 x c e rfl
    by_cases hc:c ∈ X.fs
    . obtain⟨sl,q⟩:=slot c o (I.cne x c e) hc nch ho (I.freeC x c e)
      exact⟨_,q,hd⟩
    . exact⟨o,keep c o (I.cne x c e) hc nch ho (I.freeC x c e),hd⟩
  refine⟨I.ok,I.os,hg,⟨λ b o e n hb hx=>?_,λ b o e n hb hx=>?_,λ b o e n hx=>?_,λ b o e hx=>?_,λ b xs e=>tups b xs (I.base.tups b xs e),λ b o xs e=>frzs b o xs (I.base.frzs b o xs e),λ b ps e=>?_⟩,?_,λ x c e=>?_,?_,λ x c e=>?_,λ p hp=>?_,hok,I.len⟩
  . exact keep b o (neL b o e) hb (neC b o e hx) (I.base.keep b o e n hb hx) (I.base.free b o e n hx)
  . obtain⟨sl,e1⟩:=I.base.slot b o e n hb hx
    obtain⟨sl',e2⟩:=slot b _ (neL b o e) hb (neC b o e hx) e1 (I.base.free b o e n hx)
    exact⟨sl',e2⟩
  . obtain⟨o',e1⟩:=I.base.there b o e hx
    exact free b o' (neC b o e hx) e1 (I.base.free b o e n hx)
  . obtain⟨o',e1⟩:=I.base.there b o e hx
    exact there b o' (neC b o e hx) e1
  . obtain⟨m1,e1⟩:=I.base.tbls b ps e
    obtain⟨m2,e2⟩:=tbls b _ e1
    exact⟨m1 ++ m2,by rw[e2,Array.append_assoc]⟩
  . obtain⟨m,hn,hl⟩:=I.loc
    refine⟨m,ns m hn,λ i x v e1 e2 e3=>?_⟩
    obtain⟨u,r,l⟩:=hl i x v e1 e2 e3
    refine⟨u,r,?_⟩
    rcases l with l|⟨k,c,e,z⟩
    . exact .inl l
    . exact .inr ⟨k,c,e,cellK x c e _ z⟩
  . obtain⟨v,z⟩:=I.cell x c e
    exact⟨v,cellK x c e v z⟩
  . obtain⟨m,⟨o,_,_,ho,_⟩,_⟩:=I.loc
    exact free _ o (λ z=>(hch _ z).2.1 rfl) ho I.free
  . obtain⟨v,o,ho,hd⟩:=I.cell x c e
    exact free c o (λ z=>(hch c z).2.2.1 x c e rfl) ho (I.freeC x c e)
  . obtain⟨e,n,ne,nf,d⟩:=I.pin p hp
    have nch:p.1 ∉ ch:=λ z=>(hch p.1 z).2.2.2 p hp rfl
    exact⟨keep p.1 p.2 ne nf nch e n,free p.1 p.2 nch e n,ne,nf,d⟩
theorem Inv.un{t':Nat}(I:Inv X pins σ H s)(u:Un X.fs [] H H' s.heap h')(hok:HOk X.prog X.w H' h'):Inv X pins σ H' { s with heap:=h',toks:=t' }:=by
  obtain⟨m,⟨o,es,ep,ho,r⟩,_⟩:=id I.loc
  obtain⟨sl,hL⟩:=u.any ho I.free (by simp)
  exact I.step (g':=s.gens) (d':=s.drawn) (ch:=[]) (λ _ z=>nomatch z) (λ b o _ hb _ e n=>u.keep b o e n hb (by simp)) (λ b o _ hb _ e n=>u.slot b o e n hb (by simp)) (λ b o _ e n=>u.free b o e n (by simp)) (λ b o _ e=>u.there b o e (by simp)) u.tups u.frzs u.tbls (λ m' hm=>by
    obtain⟨o',es',ep',ho',r'⟩:=hm
    rw[ho]at ho';cases ho'
    exact⟨_,es',ep',hL,r'⟩) hok I.bare
theorem Inv.call{g':Array GenState}{t':Nat}{d':Drawn}{ch:List Addr}(I:Inv X pins σ H s)(u:Un (frs X.stack) ch H H' s.heap h')(hok:HOk X.prog X.w H' h')(hg:AllBare g')
    (hch:∀ b ∈ ch,(b ∈ X.ex ∨ X.s₀.heap.objs.size <= b)/\b ≠ X.env.locals/\(∀ x c,X.env.cells.lookup x=some c->c ≠ b)/\∀ p ∈ X.pn ++ pins,p.1 ≠ b) :
    Inv X pins σ H' { s with heap:=h',gens:=g',drawn:=d',toks:=t' }:=by
  obtain⟨m,⟨o,es,ep,ho,r⟩,_⟩:=id I.loc
  obtain⟨sl,hL⟩:=u.any ho I.free λ z=>(hch _ z).2.1 rfl
  exact I.step (ch:=ch) hch (λ b o hL hb hc e n=>u.keep b o e n (λ z=>(List.mem_cons.mp (I.stkSub b z)).elim hL hb) hc) (λ b o _ _ hc e n=>u.any e n hc) (λ b o hc e n=>u.free b o e n hc) (λ b o hc e=>u.there b o e hc) u.tups u.frzs u.tbls (λ m' hm=>by
    obtain⟨o',es',ep',ho',r'⟩:=hm
    rw[ho]at ho';cases ho'
    exact⟨_,es',ep',hL,r'⟩) hok hg
theorem Inv.turned{t':Nat}{it:Addr}(I:Inv X pins σ H s)(k:∀ b o,b ≠ it->s.heap.get? b=some o->h'.get? b=some o)(hn:H it=none)(hL:it ≠ X.env.locals)
    (h1:it ∈ X.ex ∨ X.s₀.heap.objs.size <= it) (h2:∀ x c,X.env.cells.lookup x=some c->c ≠ it) (h3:∀ p ∈ X.pn ++ pins,p.1 ≠ it):Inv X pins σ H { s with heap:=h',toks:=t' }:=by
  have nit:∀ b u,H b=some u->b ≠ it:=λ b u e z=>by rw[z,hn]at e;cases e
  refine I.step (g':=s.gens) (d':=s.drawn) (ch:=[it]) (λ b hb=>?_) (λ b o _ _ hc e _=>k b o (λ z=>hc (by simp[z])) e) (λ b o _ _ hc e _=>⟨o.slots,k b o (λ z=>hc (by simp[z])) e⟩) (λ _ _ _ _ n=>n)
    (λ b o hc e=>⟨o,k b o (λ z=>hc (by simp[z])) e⟩) (λ _ _ e=>e) (λ _ _ _ e=>e) (λ b ps e=>⟨#[],by rw[e];simp⟩) (λ m hm=>?_) (λ b u e=>?_) I.bare
  . have e:b=it:=by simpa using hb
    subst e
    exact⟨h1,hL,h2,h3⟩
  . obtain⟨o,es,ep,ho,r⟩:=hm
    exact⟨o,es,ep,k _ o (Ne.symm hL) ho,r⟩
  . refine(I.hok b u e).stay (λ c v hc q=>k c v ?_ q) (λ _ q=>q) λ _ _ q=>q
    rcases hc with z|z
    . rw[z];exact nit b u e
    . exact nit c _ z
theorem Inv.tok(I:Inv X pins σ H s)(t:Nat):Inv X pins σ H { s with toks:=t }:=I.un (h':=s.heap) (t':=t) Un.refl I.hok
theorem Inv.kept{t':Nat}(I:Inv X pins σ H s)(k:∀ b u,s.heap.get? b=some u->h'.get? b=some u):Inv X pins σ H { s with heap:=h',toks:=t' }:=I.un (Un.kept k) (I.hok.kept k)
theorem Inv.laid{a:Addr}{o:HO}{t':Nat}(I:Inv X pins σ H s)(k:∀ b u,s.heap.get? b=some u->h'.get? b=some u)(hp:s.heap.objs.size <= a)(new:ObjOk X.prog X.w (upd H a o) h' a o) :
    Inv X pins σ (upd H a o) { s with heap:=h',toks:=t' }:=I.un (Un.laid k hp (I.hok.fresh hp)) (I.hok.laid k hp new)
theorem Inv.write{x e:Addr}{o:HO}{t':Nat}(I:Inv X pins σ H s)(mu:Mut (H x))(he:e=x ∨ H e=some (.own x))(k:∀ b u,b ≠ e->s.heap.get? b=some u->h'.get? b=some u)(heo:∃ u,h'.get? e=some u)
    (new:ObjOk X.prog X.w (upd H x o) h' x o):Inv X pins σ (upd H x o) { s with heap:=h',toks:=t' }:=I.un (Un.write mu he k heo) (I.hok.write mu he k heo new)
theorem Inv.weak{σ':List (Option V)}(I:Inv X pins σ H s)(hl:σ'.length=σ.length)(w:∀ (i:Nat) v,σ'[i]? = some (some v)->σ[i]? = some (some v)):Inv X pins σ' H s:=
  ⟨I.ok,I.os,I.bare,I.base,let ⟨m,hn,hl'⟩:=I.loc;⟨m,hn,λ i x v e1 e2 e3=>hl' i x v e1 (w i v e2) e3⟩,I.cell,I.free,I.freeC,I.pin,I.hok,hl.trans I.len⟩
theorem Inv.pins_of{pins':List (Addr × Obj)}(I:Inv X pins σ H s)(h:∀ p ∈ pins',s.heap.get? p.1=some p.2/\H p.1=none/\p.1 ≠ X.env.locals/\p.1 ∉ X.fs/\∀ v,p.2.data ≠ .cell v):Inv X pins' σ H s:=
  ⟨I.ok,I.os,I.bare,I.base,I.loc,I.cell,I.free,I.freeC,λ p hp=>(List.mem_append.mp hp).elim (λ z=>I.pin p (List.mem_append_left _ z)) (h p),I.hok,I.len⟩
theorem FR{N:List Str}(hN:N.Nodup){i j:Nat}{x:Str}(a:N[i]? = some x)(b:N[j]? = some x):i=j:=by
  obtain⟨h1,e1⟩:=List.getElem?_eq_some_iff.mp a
  obtain⟨h2,e2⟩:=List.getElem?_eq_some_iff.mp b
  exact(List.getElem_inj hN).mp (e1.trans e2.symm)
theorem Jy{M:Model}{A:Around}{E:Value->Shared->Prop}{i:Nat}{x:Str}{v:V}{u:Value}{Q:Unit->Shared->Prop}(I:Inv X pins σ H s)(hN:X.N.Nodup)(hi:X.N[i]? = some x)(hx:Loc X.env.scope x)(r:RelV v u)
    (h:∀ s',Inv X pins (σ.set i (some v)) H s'->(∃ a,Heap.SameBut a s.heap s'.heap/\(a=X.env.locals ∨ X.env.cells.lookup x=some a))->Q () s') (hf:X.fn x=true ∨ X.env.scope.names.lookup x=some .local:=by first|exact .inl rfl|exact .inr rfl|assumption):wpAny M A (storeName X.env x u) Q E s:=by
  obtain⟨m,hn,hl⟩:=id I.loc
  have hcls:(X.env.scope.kind == .class || (X.env.scope.kind == .module && X.env.locals != X.env.globals))=false:=by rw[I.ok.kind];rfl
  have hiσ:i < σ.length:=by rw[I.len];exact(List.getElem?_eq_some_iff.mp hi).1
  have cne:=I.cne
  have tracked:∀ {a:Addr} {h':Heap},(∃ o,s.heap.get? a=some o/\H a=none)->Heap.SameBut a s.heap h'->HOk X.prog X.w H h':=λ {a h'} ha hs b ob e=>by
    obtain⟨_,_,hfree⟩:=ha
    refine(I.hok b ob e).stay (λ c w' hc q=>(hs.2 c ?_).trans q) (λ _ q=>q) λ _ _ q=>q
    rintro rfl
    rcases hc with rfl|hc
    . rw[hfree]at e;cases e
    . rw[hfree]at hc;cases hc
  rcases hx with hk|hk
  . refine wpAny_storeName_local hk hn (λ h' hn' hs=>?_) hcls
    obtain⟨oL,_,_,hoL,_⟩:=id hn
    refine h _ ⟨I.ok,I.os,I.bare,⟨λ b o e n hb hx=>?_,λ b o e n hb hx=>?_,I.base.free,λ b o e hx=>?_,I.base.tups,I.base.frzs,I.base.tbls⟩,⟨_,hn',λ j y v' e1 e2 e3=>?_⟩,λ y c e=>?_,I.free,I.freeC,λ p hp=>?_,tracked ⟨oL,hoL,I.free⟩ hs,by simpa using I.len⟩ ⟨_,hs,.inl rfl⟩
    . exact(hs.2 b (Nat.ne_of_lt (Nat.lt_of_lt_of_le (Heap.lt_size e) I.ok.above))).trans (I.base.keep b o e n hb hx)
    . obtain⟨sl,e1⟩:=I.base.slot b o e n hb hx
      exact⟨sl,(hs.2 b (Nat.ne_of_lt (Nat.lt_of_lt_of_le (Heap.lt_size e) I.ok.above))).trans e1⟩
    . obtain⟨o',e1⟩:=I.base.there b o e hx
      exact⟨o',(hs.2 b (Nat.ne_of_lt (Nat.lt_of_lt_of_le (Heap.lt_size e) I.ok.above))).trans e1⟩
    . by_cases hj:j=i
      . subst hj
        rw[hi]at e1;cases e1
        rw[List.getElem?_set_self hiσ]at e2
        cases e2
        exact⟨u,r,.inl ⟨hk,by simp⟩⟩
      . rw[List.getElem?_set_ne (Ne.symm hj)]at e2
        obtain⟨u',r',q⟩:=hl j y v' e1 e2 e3
        refine⟨u',r',?_⟩
        rcases q with⟨k,e⟩|⟨k,c,e,z⟩
        . refine .inl ⟨k,?_⟩
          have:y ≠ x:=λ e=>hj (FR hN e1 (e ▸ hi))
          simp[this,e]
        . exact .inr ⟨k,c,e,z.sameBut hs (cne y c e)⟩
    . obtain⟨w',z⟩:=I.cell y c e
      exact⟨w',z.sameBut hs (cne y c e)⟩
    . obtain⟨e,n,ne,nf,d⟩:=I.pin p hp
      exact⟨(hs.2 p.1 ne).trans e,n,ne,nf,d⟩
  . have hfn:X.fn x=true:=by
      rcases hf with z|z
      . exact z
      . rw[z]at hk;cases hk
    obtain⟨c,hc⟩:=I.ok.has x (.inl hk)
    obtain⟨w',z⟩:=I.cell x c hc
    refine wpAny_storeName_cell I.ok.kind hk hc z (λ h' hc' hs=>?_)
    obtain⟨oc,hoc,hocd⟩:=id z
    refine h { s with heap:=h' } ⟨I.ok,I.os,I.bare,⟨λ b o e n hb hx=>?_,λ b o e n hb hx=>?_,I.base.free,λ b o e hx=>?_,I.base.tups,I.base.frzs,I.base.tbls⟩,⟨m,hn.sameBut hs (Ne.symm (cne x c hc)),λ j y v' e1 e2 e3=>?_⟩,λ y c' e=>?_,I.free,I.freeC,λ p hp=>?_,tracked ⟨oc,hoc,I.freeC x c hc⟩ hs,by simpa using I.len⟩ ⟨c,hs,.inr hc⟩
    . exact(hs.2 b (Nat.ne_of_lt (Nat.lt_of_lt_of_le (Heap.lt_size e) (I.ok.cab x c hfn hc)))).trans (I.base.keep b o e n hb hx)
    . obtain⟨sl,e1⟩:=I.base.slot b o e n hb hx
      exact⟨sl,(hs.2 b (Nat.ne_of_lt (Nat.lt_of_lt_of_le (Heap.lt_size e) (I.ok.cab x c hfn hc)))).trans e1⟩
    . obtain⟨o',e1⟩:=I.base.there b o e hx
      exact⟨o',(hs.2 b (Nat.ne_of_lt (Nat.lt_of_lt_of_le (Heap.lt_size e) (I.ok.cab x c hfn hc)))).trans e1⟩
    . by_cases hj:j=i
      . subst hj
        rw[hi]at e1;cases e1
        rw[List.getElem?_set_self hiσ]at e2
        cases e2
        exact⟨u,r,.inr ⟨.inl hk,c,hc,hc'⟩⟩
      . rw[List.getElem?_set_ne (Ne.symm hj)]at e2
        obtain⟨u',r',q⟩:=hl j y v' e1 e2 e3
        refine⟨u',r',?_⟩
        rcases q with q|⟨k,c',e,z'⟩
        . exact .inl q
        . refine .inr ⟨k,c',e,z'.sameBut hs ?_⟩
          rintro rfl
          exact hj (FR hN e1 (I.ok.inj _ _ _ e hc ▸ hi))
    . by_cases hcc:c'=c
      . subst hcc;exact⟨_,hc'⟩
      . obtain⟨w2,z2⟩:=I.cell y c' e
        exact⟨w2,z2.sameBut hs hcc⟩
    . obtain⟨e,n,ne,nf,d⟩:=I.pin p hp
      refine⟨(hs.2 p.1 ?_).trans e,n,ne,nf,d⟩
      intro q
      rw[q,hoc]at e
      have q':oc=p.2:=Option.some.inj e
      exact d w' (by rw[<- q'];exact hocd)
theorem Bn{M:Model}{A:Around}{E:Value->Shared->Prop}{i:Nat}{x:Str}{v:V}{u:Value}{Q:Unit->Shared->Prop}(I:Inv X pins σ H s)(hN:X.N.Nodup)(hi:X.N[i]? = some x)(hx:Loc X.env.scope x)(r:RelV v u)
    (h:∀ s',Inv X pins (σ.set i (some v)) H s'->Q () s') (hf:X.fn x=true ∨ X.env.scope.names.lookup x=some .local:=by first|exact .inl rfl|exact .inr rfl|assumption):wpAny M A (storeName X.env x u) Q E s:=
  Jy I hN hi hx r (λ s' I' _=>h s' I') hf
theorem Inv.call'{s':Shared}{ch:List Addr}(I:Inv X pins σ H s)(ho:s'.os=s.os)(u:Un (frs X.stack) ch H H' s.heap s'.heap)(hok:HOk X.prog X.w H' s'.heap)(hg:AllBare s'.gens)
    (hch:∀ b ∈ ch,(b ∈ X.ex ∨ X.s₀.heap.objs.size <= b)/\b ≠ X.env.locals/\(∀ x c,X.env.cells.lookup x=some c->c ≠ b)/\∀ p ∈ X.pn ++ pins,p.1 ≠ b):Inv X pins σ H' s':=by
  obtain⟨h',g',d',t',o'⟩:=s'
  have e:o'=s.os:=ho
  subst e
  exact I.call (g':=g') (t':=t') (d':=d') u hok hg hch
end
noncomputable abbrev XK:=Value->Option Addr->Hp->Prop
noncomputable abbrev St:=List (Option V)
noncomputable abbrev VK:=V->Hp->Prop
noncomputable abbrev TE:=St->Hp->VK->Prop
noncomputable abbrev TT:=St->Hp->(Bool->Hp->Prop)->Prop
noncomputable abbrev TA:=St->Hp->(List V->Hp->Prop)->Prop
structure Ends where
  nx:St->Hp->Prop
  rt:VK
  bk:St->Hp->Prop:=λ _ _=>False
  ct:St->Hp->Prop:=λ _ _=>False
noncomputable abbrev TS:=Ends->St->Hp->Prop
noncomputable def EP(X:Cx)(pins:List (Addr × Obj))(σ:St)(Q:VK)(u:Value)(s':Shared):Prop:=∃ v H',Inv X pins σ H' s'/\RelV v u/\Q v H'
noncomputable def TP(X:Cx)(pins:List (Addr × Obj))(σ:St)(Q:Bool->Hp->Prop)(b:Bool)(s':Shared):Prop:=∃ H',Inv X pins σ H' s'/\Q b H'
noncomputable def AP(X:Cx)(pins:List (Addr × Obj))(σ:St)(Q:List V->Hp->Prop)(us:List Value)(s':Shared):Prop:=∃ vs H',Inv X pins σ H' s'/\Vals vs us/\Q vs H'
noncomputable def SP(X:Cx)(pins:List (Addr × Obj))(D:Ends)(f:Flow)(s':Shared):Prop:=
  match f with
  | .next=>∃ σ' H',Inv X pins σ' H' s'/\D.nx σ' H'
  | .brk=>∃ σ' H',Inv X pins σ' H' s'/\D.bk σ' H'
  | .cont=>∃ σ' H',Inv X pins σ' H' s'/\D.ct σ' H'
  | .ret u=>∃ v σ' H',Inv X pins σ' H' s'/\RelV v u/\D.rt v H'
noncomputable def PE(X:Cx)(e:Expr)(t:TE):Prop:=
  ∀ (pins:List (Addr × Obj)) (s:Shared) (σ:St) (H:Hp) (Q:VK),Inv X pins σ H s->t σ H Q->wpAny (model X.prog X.w) X.A (eval e X.env) (EP X pins σ Q) X.xe s
noncomputable def PT(X:Cx)(e:Expr)(t:TT):Prop:=
  ∀ (pins:List (Addr × Obj)) (s:Shared) (σ:St) (H:Hp) (Q:Bool->Hp->Prop),Inv X pins σ H s->t σ H Q->wpAny (model X.prog X.w) X.A (isTrue e X.env (eval e X.env)) (TP X pins σ Q) X.xe s
noncomputable def PW(X:Cx)(e:Expr)(t:TT):Prop:=
  ∀ (whole:Sem Value) (pins:List (Addr × Obj)) (s:Shared) (σ:St) (H:Hp) (Q:Bool->Hp->Prop),Inv X pins σ H s->t σ H Q->wpAny (model X.prog X.w) X.A (isTrue e X.env whole) (TP X pins σ Q) X.xe s
theorem PW.pt{X:Cx}{e:Expr}{t:TT}(h:PW X e t):PT X e t:=h _
noncomputable def PA(X:Cx)(es:List Expr)(t:TA):Prop:=
  ∀ (pos:Pos) (pins:List (Addr × Obj)) (s:Shared) (σ:St) (H:Hp) (Q:List V->Hp->Prop),Inv X pins σ H s->t σ H Q->wpAny (model X.prog X.w) X.A (spliced (backTo pos (starEach es X.env))) (AP X pins σ Q) X.xe s
noncomputable def PS(X:Cx)(st:Stmt)(t:TS):Prop:=
  ∀ (pins:List (Addr × Obj)) (s:Shared) (σ:St) (H:Hp) (D:Ends),Inv X pins σ H s->t D σ H->wpAny (model X.prog X.w) X.A (exec st X.env) (SP X pins D) X.xe s
noncomputable def PSs(X:Cx)(st:List Stmt)(t:TS):Prop:=
  ∀ (pins:List (Addr × Obj)) (s:Shared) (σ:St) (H:Hp) (D:Ends),Inv X pins σ H s->t D σ H->wpAny (model X.prog X.w) X.A (execs st X.env) (SP X pins D) X.xe s
theorem thn{α:Type}{t:Sem α}{Q Q':α->Shared->Prop}{M:Model}{A:Around}{E:Value->Shared->Prop}{s:Shared}(h:wpAny M A t Q E s)(hQ:∀ a s,Q a s->Q' a s):wpAny M A t Q' E s:=wpAny_mono h hQ λ _ _ x=>x
end L2
namespace L2
open PySem PySem.Spec PyProof.Rows
section
variable{X:Cx}
theorem bin{a b:Expr}{ta tb:TE}(ha:PE X a ta)(hb:PE X b tb){pins:List (Addr × Obj)}{s:Shared}{σ:St}{H:Hp}{R:V->V->Hp->Prop}(I:Inv X pins σ H s)(h:ta σ H λ x H1=>tb σ H1 λ y H2=>R x y H2)
    {α:Type} {Q:α->Shared->Prop} {f:Value->Value->Sem α}
    (hf:∀ v u s2 x y H2,Inv X pins σ H2 s2->RelV x v->RelV y u->R x y H2->wpAny (model X.prog X.w) X.A (f v u) Q X.xe s2) :
    wpAny (model X.prog X.w) X.A (eval a X.env) (λ v s₁=>wpAny (model X.prog X.w) X.A (eval b X.env) (λ u s₂=>wpAny (model X.prog X.w) X.A (f v u) Q X.xe s₂) X.xe s₁) X.xe s:=by
  refine thn (ha pins s σ H _ I h) λ v s1 ⟨x,H1,I1,r1,q1⟩=>?_
  refine thn (hb pins s1 σ H1 _ I1 q1) λ u s2 ⟨y,H2,I2,r2,q2⟩=>?_
  exact hf v u s2 x y H2 I2 r1 r2 q2
noncomputable def J7(i:Nat):TE:=λ σ H Q=>∃ v,σ[i]? = some (some v)/\Q v H
noncomputable def tC(v:V):TE:=λ _ H Q=>Q v H
theorem Dv{i:Nat}{x:Str}{pos:Pos}(hN:X.N[i]? = some x)(hv:Vis X.env.scope x)(hd:(x == ("__debug__":Str))=false:=by decide)(hcd:(x == ("__classdict__":Str))=false:=by decide):PE X (.Name x pos) (J7 i):=by
  intro pins s σ H Q I h
  obtain⟨v,e,h⟩:=h
  obtain⟨m,hn,hl⟩:=I.loc
  obtain⟨u,r,l⟩:=hl i x v hN e hv
  have fin:EP X pins σ Q u s:=⟨v,H,I,r,h⟩
  rcases l with⟨hk,hm⟩|⟨hk,c,hc,hcell⟩
  . exact wpAny_Name (wpAny_loadName_local I.ok.kind hk hn hm fin) hd
  . rcases hk with hk|hk
    . exact wpAny_Name (wpAny_loadName_cell I.ok.kind hk hc hcell fin) hd
    . exact wpAny_Name (wpAny_loadName_free I.ok.kind hk hc hcell fin hcd) hd
theorem PV{i j pos}:PE X (.Constant (.int i) j pos) (tC (.int i)):=λ _ _ _ H _ I h=>wpAny_Constant_int ⟨.int i,H,I.tok _,⟨_,rfl⟩,h⟩
theorem Qp{b j pos}:PE X (.Constant (.bool b) j pos) (tC (.bl b)):=λ _ _ _ H _ I h=>Constant_bool ⟨.bl b,H,I,rfl,h⟩
theorem KB{x j pos}:PE X (.Constant (.str x) j pos) (tC (.str x)):=λ _ _ _ H _ I h=>Calls.Constant_str ⟨.str x,H,I.tok _,⟨_,rfl⟩,h⟩
noncomputable def Gl(X:Cx)(x:Str):Prop:=X.env.kindOf x=some .globalImplicit
theorem Dx{E:Value->Shared->Prop}{pins:List (Addr × Obj)}{s:Shared}{σ:St}{H:Hp}{x:Str}{u:Value}{pos:Pos}{Q:Value->Shared->Prop}(I:Inv X pins σ H s)(hg:Gl X x)(hm:X.mg x=some u)(h:Q u s)
    (hd:(x == ("__debug__":Str))=false:=by decide):wpAny (model X.prog X.w) X.A (eval (.Name x pos) X.env) Q E s:=
  Calls.Name_function_global I.ok.kind hg (Calls.loadGlobal_global (by rw[I.ok.glob];exact I.mod.glob.keeps I.bk) hm h) hd
theorem Fs{E:Value->Shared->Prop}{pins:List (Addr × Obj)}{s:Shared}{σ:St}{H:Hp}{x:Str}{u:Value}{pos:Pos}{Q:Value->Shared->Prop}(I:Inv X pins σ H s)(hg:Gl X x)(hm:X.mg x=none)(hv:bootBuiltins x=some u)(h:Q u s)
    (hn:x ≠ "__name__":=by decide) (hd:(x == ("__debug__":Str))=false:=by decide):wpAny (model X.prog X.w) X.A (eval (.Name x pos) X.env) Q E s:=by
  obtain⟨mb,h1,h2⟩:=I.mod.blt
  exact Calls.Name_function_global I.ok.kind hg (Calls.loadGlobal_builtin (by rw[I.ok.glob];exact I.mod.glob.keeps I.bk) hm (by rw[I.ok.blt];exact h1.keeps I.bk) ((h2 x hn).trans hv) h) hd
theorem Ik{x:Str}{v:V}{u:Value}{pos:Pos}(hg:Gl X x)(hm:X.mg x=some u)(r:RelV v u)(hd:(x == ("__debug__":Str))=false:=by decide):PE X (.Name x pos) (tC v):=
  λ _ _ _ H _ I h=>Dx I hg hm ⟨v,H,I,r,h⟩ hd
variable{a b:Expr}{ta tb:TE}{pos:Pos}
noncomputable def PC(X:Cx)(op:CmpOp)(a b:Expr)(t:TE):Prop:=
  ∀ (pins:List (Addr × Obj)) (s:Shared) (σ:St) (H:Hp) (Q:VK),Inv X pins σ H s->t σ H Q ->
    wpAny (model X.prog X.w) X.A (eval a X.env) (λ v s₁=>wpAny (model X.prog X.w) X.A (eval b X.env) (λ u s₂=>wpAny (model X.prog X.w) X.A (compareOp op v u) (EP X pins σ Q) X.xe s₂) X.xe s₁) X.xe s
theorem Lf(b:Expr){op:CmpOp}(h:op ≠ .In)(h2:op ≠ .NotIn):behindInMarks op b=false:=by
  have e1:(op == CmpOp.In)=false:=by cases op <;> first|rfl|exact absurd rfl h
  have e2:(op == CmpOp.NotIn)=false:=by cases op <;> first|rfl|exact absurd rfl h2
  cases b <;> simp[behindInMarks,e1,e2]
noncomputable def tB(t:TE):TT:=λ σ H Q=>t σ H λ x H1=>∃ c,x=.bl c/\Q c H1
theorem Sd{op:CmpOp}{t:TE}(h:PC X op a b t)(h1:behindInMarks op b=false:=by first|exact Lf _ (by decide) (by decide)|rfl):PT X (.Compare a [op] [b] pos) (tB t):=by
  intro pins s σ H Q I hw
  refine wpAny_isTrue_Compare1 (thn (h pins s σ H _ I hw) λ v s1 h1=>thn h1 λ u s2 h2=>thn h2 λ c s3 ⟨x,H1,I1,r1,q1⟩=>?_) h1
  obtain⟨d,rfl,q⟩:=q1
  cases r1
  exact wpAny_truthy_bool ⟨H1,I1,q⟩
theorem Hi{e:Expr}{t:TE}(h:PE X e t)(he:∀ whole,isTrue e X.env whole=(do let v <- whole;standAt e.pos;holding [v] (truthy v)):=by intro _;rfl):PT X e (tB t):=by
  intro pins s σ H Q I hw
  refine isTrue_plain (thn (h pins s σ H _ I hw) λ v s1 ⟨x,H1,I1,r1,q1⟩=>?_) (he _)
  obtain⟨d,rfl,q⟩:=q1
  cases r1
  exact wpAny_truthy_bool ⟨H1,I1,q⟩
variable{tA tB':TT}{rest:List Expr}
noncomputable def Kt(t u:TT):TT:=λ σ H Q=>t σ H λ c H1=>if c=true then u σ H1 Q else Q false H1
noncomputable def tOr(t u:TT):TT:=λ σ H Q=>t σ H λ c H1=>if c=true then Q true H1 else u σ H1 Q
noncomputable def Kq(t:TT):TT:=λ σ H Q=>t σ H λ c H1=>Q (!c) H1
theorem Ii(ha:PT X a tA):PW X (.BoolOp .And [a] pos) tA:=by
  intro wh pins s σ H Q I h
  refine isTrue_and (thn (ha pins s σ H Q I h) λ c s1 e=>?_)
  cases c with
  | true=>exact isTrue_and_nil e
  | false=>exact e
theorem PB(ha:PT X a tA):PW X (.BoolOp .Or [a] pos) tA:=by
  intro wh pins s σ H Q I h
  refine isTrue_or (thn (ha pins s σ H Q I h) λ c s1 e=>?_)
  cases c with
  | false=>exact isTrue_or_nil e
  | true=>exact e
theorem Hh(ha:PT X a tA)(hb:PW X (.BoolOp .And (b :: rest) pos) tB'):PW X (.BoolOp .And (a :: b :: rest) pos) (Kt tA tB'):=by
  intro wh pins s σ H Q I h
  refine isTrue_and (thn (ha pins s σ H _ I h) λ c s1 ⟨H1,I1,q1⟩=>?_)
  cases c with
  | true=>exact hb wh pins s1 σ H1 Q I1 q1
  | false=>exact⟨H1,I1,q1⟩
theorem Ql(ha:PT X a tA)(hb:PW X (.BoolOp .Or (b :: rest) pos) tB'):PW X (.BoolOp .Or (a :: b :: rest) pos) (tOr tA tB'):=by
  intro wh pins s σ H Q I h
  refine isTrue_or (thn (ha pins s σ H _ I h) λ c s1 ⟨H1,I1,q1⟩=>?_)
  cases c with
  | true=>exact⟨H1,I1,q1⟩
  | false=>exact hb wh pins s1 σ H1 Q I1 q1
theorem K8(ha:PT X a tA):PT X (.UnaryOp .Not a pos) (Kq tA):=by
  intro pins s σ H Q I h
  exact isTrue_not (ha pins s σ H (λ c H1=>Q (!c) H1) I h)
noncomputable def tIf(t:TT)(ta tb:TE):TE:=λ σ H Q=>t σ H λ c H1=>if c=true then ta σ H1 Q else tb σ H1 Q
theorem Lb{c:Expr}(hc:PT X c tA)(ha:PE X a ta)(hb:PE X b tb):PE X (.IfExp c a b pos) (tIf tA ta tb):=by
  intro pins s σ H Q I h
  refine wpAny_IfExp (thn (hc pins s σ H _ I h) λ d s1 ⟨H1,I1,q1⟩=>?_)
  cases d with
  | true=>exact ha pins s1 σ H1 Q I1 q1
  | false=>exact hb pins s1 σ H1 Q I1 q1
end
end L2
namespace L2
open PySem PySem.Spec PyProof.Rows
noncomputable def SqL(K:PySem.W.Frag)(H:Hp)(a:Addr)(xs:List V):Prop:=
  Rd H a (.lst xs) ∨
    ∃ (o:Obj) (its:Array Value) (n:Nat),K.lookup a=some o/\o.cls=.type "list"/\o.dict=none/\o.data=.seq its n/\its.size <= sizeLine/\Vals xs its.toList
noncomputable def SqT(K:PySem.W.Frag)(H:Hp)(a:Addr)(xs:List V):Prop:=
  Rd H a (.tup xs) ∨
    ∃ (o:Obj) (its:Array Value) (n:Nat),K.lookup a=some o/\o.cls=.type "tuple"/\o.dict=none/\o.data=.seq its n/\its.size <= sizeLine/\Vals xs its.toList
noncomputable def S3:Value->Option V
  | .none=>some .non
  | .bool b=>some (.bl b)
  | .int i _=>some (.int i)
  | .str x _=>some (.str x)
  | .bytes b _=>some (.byt b)
  | .float b _=>some (.flt b)
  | .ref a=>some (.ref a)
  | .type n=>some (.ty n)
  | _=>none
theorem RelV.abs{x:V}{u:Value}(r:RelV x u):S3 u=some x:=by
  cases x with
  | non=>cases r;rfl
  | bl _=>cases r;rfl
  | int _=>obtain⟨t,rfl⟩:=r;rfl
  | str _=>obtain⟨t,rfl⟩:=r;rfl
  | byt _=>obtain⟨t,rfl⟩:=r;rfl
  | flt _=>obtain⟨t,rfl⟩:=r;rfl
  | ref _=>cases r;rfl
  | ty _=>cases r;rfl
theorem RelV.inj{x y:V}{u:Value}(r:RelV x u)(q:RelV y u):x=y:=Option.some.inj (r.abs.symm.trans q.abs)
theorem Vals.inj:∀ {xs ys:List V} {us:List Value},Vals xs us->Vals ys us->xs=ys
  | _,_,_,.nil,.nil=>rfl
  | _,_,_,.cons r t,.cons r' t'=>by rw[r.inj r',Vals.inj t t']
section
variable{X:Cx}{pins:List (Addr × Obj)}{σ:St}{H:Hp}{s:Shared}{a:Addr}{xs ys:List V}
theorem SqL.of{K:PySem.W.Frag}(h:H a=some (.lst xs)):SqL K H a xs:=.inl (.inl h)
theorem SqT.of{K:PySem.W.Frag}(h:H a=some (.tup xs)):SqT K H a xs:=.inl (.inl h)
theorem Inv.list(I:Inv X pins σ H s)(h:SqL X.K H a xs):∃ its:List Value,Vals xs its/\PlainL s.heap a its.toArray/\xs.length <= sizeLine:=by
  rcases h with h|⟨o,its,n,hk,hc,hd,hs,hz,r⟩
  . obtain⟨z,its,n,r,e⟩:=h.ok I.hok
    exact⟨its,r,⟨_,n,e,rfl,rfl,rfl⟩,z⟩
  . refine⟨its.toList,r,⟨o,n,I.kIn a o hk,hc,hd,by simpa using hs⟩,?_⟩
    have e:=r.length
    simp only[Array.length_toList]at e
    omega
theorem Inv.tuple(I:Inv X pins σ H s)(h:SqT X.K H a xs):∃ its:List Value,Vals xs its/\IsTup s.heap a its.toArray/\xs.length <= sizeLine:=by
  rcases h with h|⟨o,its,n,hk,hc,_,hs,hz,r⟩
  . obtain⟨z,its,r,p⟩:=h.ok I.hok
    exact⟨its,r,p.t,z⟩
  . refine⟨its.toList,r,⟨o,I.kIn a o hk,hc,n,by simpa using hs⟩,?_⟩
    have e:=r.length
    simp only[Array.length_toList]at e
    omega
theorem Inv.list_inj(I:Inv X pins σ H s)(h:SqL X.K H a xs)(h':SqL X.K H a ys):xs=ys:=by
  obtain⟨its,r,⟨o,n,e,_,_,d⟩,_⟩:=I.list h
  obtain⟨its',r',⟨o',n',e',_,_,d'⟩,_⟩:=I.list h'
  rw[e]at e';cases e'
  rw[d]at d'
  injection d' with d1 _
  have:its=its':=by simpa using congrArg Array.toList d1
  subst this
  exact r.inj r'
theorem Inv.tuple_inj(I:Inv X pins σ H s)(h:SqT X.K H a xs)(h':SqT X.K H a ys):xs=ys:=by
  obtain⟨its,r,⟨o,e,_,n,d⟩,_⟩:=I.tuple h
  obtain⟨its',r',⟨o',e',_,n',d'⟩,_⟩:=I.tuple h'
  rw[e]at e';cases e'
  rw[d]at d'
  injection d' with d1 _
  have:its=its':=by simpa using congrArg Array.toList d1
  subst this
  exact r.inj r'
end
noncomputable abbrev Cx.wish(X:Cx)(E:Value->Shared->Prop):Cx:={ X with xe:=E }
noncomputable abbrev Cx.nox(X:Cx):Cx:=X.wish λ _ _=>False
theorem Cx.Ok.wish{X:Cx}(ok:X.Ok)(E:Value->Shared->Prop):(X.wish E).Ok:=
  ⟨ok.mod,ok.kind,ok.glob,ok.blt,ok.above,ok.inj,ok.has,ok.cab,ok.hd,ok.frames,ok.stk,ok.exf,ok.bs,ok.bsz,ok.noex,ok.exfs,ok.funs,ok.frf⟩
theorem Cx.Ok.unwish{X:Cx}{E:Value->Shared->Prop}(ok:(X.wish E).Ok):X.Ok:=
  ⟨ok.mod,ok.kind,ok.glob,ok.blt,ok.above,ok.inj,ok.has,ok.cab,ok.hd,ok.frames,ok.stk,ok.exf,ok.bs,ok.bsz,ok.noex,ok.exfs,ok.funs,ok.frf⟩
section
variable{X:Cx}{pins:List (Addr × Obj)}{σ:St}{H:Hp}{s:Shared}{E:Value->Shared->Prop}
theorem Inv.wish(I:Inv X pins σ H s)(E:Value->Shared->Prop):Inv (X.wish E) pins σ H s:=⟨I.ok.wish E,I.os,I.bare,I.base,I.loc,I.cell,I.free,I.freeC,I.pin,I.hok,I.len⟩
theorem Inv.unwish(I:Inv (X.wish E) pins σ H s):Inv X pins σ H s:=⟨I.ok.unwish,I.os,I.bare,I.base,I.loc,I.cell,I.free,I.freeC,I.pin,I.hok,I.len⟩
theorem SP.unwish{D:Ends}{f:Flow}{s':Shared}(h:SP (X.wish E) pins D f s'):SP X pins D f s':=by
  cases f with
  | next=>obtain⟨σ',H',I,q⟩:=h;exact⟨σ',H',I.unwish,q⟩
  | brk=>obtain⟨σ',H',I,q⟩:=h;exact⟨σ',H',I.unwish,q⟩
  | cont=>obtain⟨σ',H',I,q⟩:=h;exact⟨σ',H',I.unwish,q⟩
  | ret u=>obtain⟨v,σ',H',I,r,q⟩:=h;exact⟨v,σ',H',I.unwish,r,q⟩
theorem PSs.nox{st:List Stmt}{t:TS}(h:PSs X.nox st t):PSs X st t:=λ pins s σ H D I hw=>
  wpAny_mono (h pins s σ H D (I.wish _) hw) (λ _ _ q=>q.unwish) λ _ _ z=>False.elim z
end
section
variable{X:Cx}{st:Stmt}{rest:List Stmt}{t u:TS}{e:Expr}{te:TE}{pos:Pos}
noncomputable def Gv:TS:=λ D σ H=>D.nx σ H
noncomputable def HK(t u:TS):TS:=λ D σ H=>t { D with nx:=u D } σ H
theorem GE:PSs X [] Gv:=λ _ _ σ H _ I h=>wpAny_execs_nil ⟨σ,H,I,h⟩
theorem Hj(h1:PS X st t)(h2:PSs X rest u):PSs X (st :: rest) (HK t u):=by
  intro pins s σ H D I h
  refine wpAny_execs_cons (thn (h1 pins s σ H { D with nx:=u D } I h) λ f s1 q=>?_)
  cases f with
  | next=>
    obtain⟨σ',H',I',q⟩:=q
    exact h2 pins s1 σ' H' D I' q
  | ret v=>exact q
  | brk=>exact q
  | cont=>exact q
theorem Ez(h1:PS X st t):PSs X [st] t:=by
  intro pins s σ H D I h
  refine wpAny_execs_cons (thn (h1 pins s σ H D I h) λ f s1 q=>?_)
  cases f with
  | next=>exact wpAny_execs_nil q
  | ret v=>exact q
  | brk=>exact q
  | cont=>exact q
theorem Inv.quiet{pins:List (Addr × Obj)}{σ:St}{H:Hp}{s:Shared}(I:Inv X pins σ H s):interactive X.env=false:=by simp[interactive,I.ok.kind]
noncomputable def JC(te:TE):TS:=λ D σ H=>te σ H λ _ H1=>D.nx σ H1
theorem Na(he:PE X e te)(hs:swapsWith e none pos.line X.env=pure false:=by rfl):PS X (.Expr e pos) (JC te):=by
  intro pins s σ H D I h
  exact wpAny_Expr_any (thn (he pins s σ H _ I h) λ v s1 ⟨x,H1,I1,r1,q1⟩=>⟨σ,H1,I1,q1⟩) I.quiet hs
noncomputable def FL(te:TE):TS:=λ D σ H=>te σ H D.rt
theorem PH(he:PE X e te):PS X (.Return (some e) pos) (FL te):=by
  intro pins s σ H D I h
  exact wpAny_Return_some (thn (he pins s σ H _ I h) λ v s1 ⟨x,H1,I1,r1,q1⟩=>⟨x,σ,H1,I1,r1,q1⟩)
noncomputable def HM(c:TT)(t u:TS):TS:=λ D σ H=>c σ H λ b H1=>if b=true then t D σ H1 else u D σ H1
theorem MQ{c:Expr}{a b:List Stmt}{tc:TT}(hc:PT X c tc)(ha:PSs X a t)(hb:PSs X b u):PS X (.If c a b pos) (HM tc t u):=by
  intro pins s σ H D I h
  refine wpAny_If (thn (hc pins s σ H _ I h) λ d s1 ⟨H1,I1,q1⟩=>?_)
  cases d with
  | true=>exact ha pins s1 σ H1 D I1 q1
  | false=>exact hb pins s1 σ H1 D I1 q1
noncomputable def FZ:TS:=λ _ _ _=>False
theorem LW:PS X st FZ:=λ _ _ _ _ _ _ h=>h.elim
end
noncomputable abbrev TG:=V->St->Hp->(St->Hp->Prop)->Prop
noncomputable abbrev TGs:=List V->St->Hp->(St->Hp->Prop)->Prop
noncomputable def PG(X:Cx)(target:Expr)(t:TG):Prop:=
  ∀ (pins:List (Addr × Obj)) (s:Shared) (σ:St) (H:Hp) (v:V) (u:Value) (Q:St->Hp->Prop),Inv X pins σ H s->RelV v u->t v σ H Q ->
    wpAny (model X.prog X.w) X.A (assign target X.env u) (λ _ s'=>∃ σ' H',Inv X pins σ' H' s'/\Q σ' H') X.xe s
noncomputable def PGs(X:Cx)(ts:List Expr)(t:TGs):Prop:=
  ∀ (pins:List (Addr × Obj)) (s:Shared) (σ:St) (H:Hp) (vs:List V) (us:List Value) (Q:St->Hp->Prop),Inv X pins σ H s->Vals vs us->t vs σ H Q ->
    wpAny (model X.prog X.w) X.A (assignInOrder ((assignEach ts X.env).map (·.2)) us) (λ _ s'=>∃ σ' H',Inv X pins σ' H' s'/\Q σ' H') X.xe s
noncomputable abbrev M3:=V->V->V->Hp->(Hp->Prop)->Prop
noncomputable def QL(X:Cx)(t:M3):Prop:=
  ∀ (pins:List (Addr × Obj)) (s:Shared) (σ:St) (H:Hp) (o i v:V) (ov iv u:Value) (Q:Hp->Prop),Inv X pins σ H s->RelV o ov->RelV i iv->RelV v u->t o i v H Q ->
    wpAny (model X.prog X.w) X.A (setItem ov iv u) (λ _ s'=>∃ H',Inv X pins σ H' s'/\Q H') X.xe s
section
variable{X:Cx}{pos:Pos}
noncomputable def Fv(i:Nat):TG:=λ v σ H Q=>Q (σ.set i (some v)) H
theorem Nl{i:Nat}{x:Str}(hN:X.N.Nodup)(hi:X.N[i]? = some x)(hx:Loc X.env.scope x)(hf:X.fn x=true ∨ X.env.scope.names.lookup x=some .local:=by first|exact .inl rfl|exact .inr rfl|assumption):PG X (.Name x pos) (Fv i):=by
  intro pins s σ H v u Q I r h
  exact wpAny_assign_Name (Bn I hN hi hx r (λ s' I'=>⟨_,H,I',h⟩) hf)
noncomputable def Lu:TGs:=λ vs σ H Q=>vs=[]/\Q σ H
noncomputable def Jf(t:TG)(u:TGs):TGs:=λ vs σ H Q=>∃ v r,vs=v :: r/\t v σ H λ σ' H'=>u r σ' H' Q
theorem Nj:PGs X [] Lu:=by
  intro pins s σ H vs us Q I r h
  obtain⟨e,h⟩:=h
  subst e
  cases r
  exact assignInOrder_nil ⟨σ,H,I,h⟩
theorem La{e:Expr}{es:List Expr}{t:TG}{u:TGs}(h1:PG X e t)(h2:PGs X es u)
    (hs:(assignEach (e :: es) X.env).map (·.2)=assign e X.env :: (assignEach es X.env).map (·.2):=by rfl):PGs X (e :: es) (Jf t u):=by
  intro pins s σ H vs us Q I r h
  obtain⟨v,vr,e1,h⟩:=h
  subst e1
  cases r with
  | cons r rr=>
    rw[hs]
    refine assignInOrder_cons (thn (h1 pins s σ H _ _ _ I r h) λ _ s1 ⟨σ1,H1,I1,q1⟩=>?_)
    exact h2 pins s1 σ1 H1 _ _ Q I1 rr q1
noncomputable def Je(K:PySem.W.Frag)(n:Nat)(t:TGs):TG:=λ v σ H Q=>∃ a xs,v=.ref a/\SqT K H a xs/\xs.length=n/\t xs σ H Q
theorem PP{es:List Expr}{k:Nat}{t:TGs}{n:Nat}(hc:X.calm=true)(h:PGs X es t)
    (hn:(assignEach es X.env).length=n:=by rfl) (hst:(assignEach es X.env).findIdx? (·.1)=none:=by rfl):PG X (.Tuple es k pos) (Je X.K n t):=by
  intro pins s σ H v u Q I r hw
  obtain⟨a,xs,e1,hq,hl,hw⟩:=hw
  subst e1
  cases r
  obtain⟨its,rv,ht,hz⟩:=I.tuple hq
  refine assign_Tuple_tuple (I.ok.hd hc) ht (by simp[hn,<- hl,rv.length]) hst λ h' hx=>?_
  have I1:Inv X pins σ H { s with heap:=h' }:=I.kept (t':=s.toks) λ b o e=>hx b o (Nat.ne_of_lt (Heap.lt_size e)) e
  exact h pins _ σ H xs _ Q I1 (by simpa using rv) hw
noncomputable def Lq(to ti:TE)(t:M3):TG:=λ v σ H Q=>to σ H λ o H1=>ti σ H1 λ i H2=>t o i v H2 λ H3=>Q σ H3
theorem PQ{o i:Expr}{to ti:TE}{t:M3}(ho:PE X o to)(hi:PE X i ti)(hs:QL X t)
    (ha:∀ v,assign (.Subscript o i pos) X.env v=(do
      let ov <- holding [v] (eval o X.env)
      let iv <- holding [v,ov] (eval i X.env)
      standAt pos
      holding [v,ov,iv] (setItem ov iv v)
      release [v,ov,iv] []):=by intro _;rfl):PG X (.Subscript o i pos) (Lq to ti t):=by
  intro pins s σ H v u Q I r h
  rw[ha]
  refine wpAny_bind (wpAny_holding (thn (ho pins s σ H _ I h) λ ov s1 ⟨x,H1,I1,r1,q1⟩=>?_))
  refine wpAny_bind (wpAny_holding (thn (hi pins s1 σ H1 _ I1 q1) λ iv s2 ⟨y,H2,I2,r2,q2⟩=>?_))
  refine wpAny_bind (wpAny_standAt (wpAny_bind (wpAny_holding (thn (hs pins s2 σ H2 x y v ov iv u _ I2 r1 r2 r q2) λ _ s3 ⟨H3,I3,q3⟩=>?_))))
  exact wpAny_release ⟨σ,H3,I3,q3⟩
noncomputable def GA(te:TE)(g:TG):TS:=λ D σ H=>te σ H λ x H1=>g x σ H1 D.nx
theorem PL{tg e:Expr}{te:TE}{g:TG}(he:PE X e te)(hg:PG X tg g)(hs:swapsWithSole [tg] e pos.line X.env=pure false:=by rfl)(hw:swappedStores [tg] e X.env=pure none:=by rfl)
    (h1:(assignEach [tg] X.env).map (·.2)=[assign tg X.env]:=by rfl):PS X (.Assign [tg] e pos) (GA te g):=by
  intro pins s σ H D I h
  refine wpAny_Assign_stores (thn (he pins s σ H _ I h) λ v s1 ⟨x,H1,I1,r1,q1⟩=>?_) hs hw
  rw[h1]
  exact thn (hg pins s1 σ H1 x v _ I1 r1 q1) λ _ s2 q=>q
theorem Hk{i:Nat}{x:Str}{e:Expr}{te:TE}{pos':Pos}(hN:X.N.Nodup)(hi:X.N[i]? = some x)(hx:Loc X.env.scope x)(he:PE X e te)(hs:swapsWith e (some (.Name x pos')) pos.line X.env=pure false:=by rfl)(hf:X.fn x=true ∨ X.env.scope.names.lookup x=some .local:=by first|exact .inl rfl|exact .inr rfl|assumption) :
    PS X (.Assign [.Name x pos'] e pos) (GA te (Fv i)):=by
  intro pins s σ H D I h
  refine wpAny_Assign_Name (thn (he pins s σ H _ I h) λ v s1 ⟨y,H1,I1,r1,q1⟩=>?_) hs
  exact Bn I1 hN hi hx r1 (λ s2 I2=>⟨_,H1,I2,q1⟩) hf
noncomputable def Kp(i j:Nat)(ta:TA):TS:=λ D σ H=>ta σ H λ vs H1=>∃ v w,vs=[v,w]/\D.nx ((σ.set i (some v)).set j (some w)) H1
theorem PJ{i j:Nat}{x y:Str}{a b:Expr}{ta:TA}{px py pt:Pos}{kt k2 pt2}(hc:X.calm=true)(hN:X.N.Nodup)(hi:X.N[i]? = some x)(hj:X.N[j]? = some y)(hij:i ≠ j)
    (hx:X.env.scope.names.lookup x=some .local) (hy:X.env.scope.names.lookup y=some .local) (ha:PA X [a,b] ta)
    (hw:swappedStores [.Tuple [.Name x px,.Name y py] kt pt] (.Tuple [a,b] k2 pt2) X.env=pure (some [x,y]))
    (hs:swapsWithSole [.Tuple [.Name x px,.Name y py] kt pt] (.Tuple [a,b] k2 pt2) pos.line X.env=pure false:=by rfl) :
    PS X (.Assign [.Tuple [.Name x px,.Name y py] kt pt] (.Tuple [a,b] k2 pt2) pos) (Kp i j ta):=by
  intro pins s σ H D I h
  rw[exec_Assign_arm]
  refine wpAny_bind (wpAny_standAt ?_)
  rw[hs]
  refine wpAny_bind (wpAny_pure ?_)
  rw[if_neg (by decide)]
  refine wpAny_bind (Tuple_ (thn (ha _ pins s σ H _ I h) λ us s1 ⟨vs,H1,I1,r1,q1⟩=>?_))
  obtain⟨v,w,e1,q1⟩:=q1
  subst e1
  obtain⟨u1,u2,rfl,rv,rw'⟩:∃ u1 u2,us=[u1,u2]/\RelV v u1/\RelV w u2:=by
    cases r1 with
    | cons p q=>
      cases q with
      | cons p' q'=>
        cases q'
        exact⟨_,_,rfl,p,p'⟩
  refine wpAny_newObj_type ?_ (by show 2 <= sizeLine;decide)
  have I2:Inv X pins σ H1 { s1 with heap:=s1.heap.push { cls:=.type "tuple",data:=.seq [u1,u2].toArray } }:=I1.kept (t':=s1.toks) λ b o e=>Heap.get?_push_of_some _ e
  rw[hw]
  refine wpAny_bind (wpAny_pure ?_)
  show wpAny (model X.prog X.w) X.A (do rule "assign.swapped-stores";let items <- unpackItems (.ref s1.heap.objs.size) 2 none;assignInOrder [λ v=>bindName X.env y v,λ v=>bindName X.env x v] items.reverse;pure Flow.next) _ _ _
  refine wpAny_bind (wpAny_rule (wpAny_bind (unpackItems_tuple (items:=#[u1,u2]) (I.ok.hd hc) (IsTup.new s1.heap _) λ h' hx'=>?_)))
  have I3:=I2.kept (h':=h') (t':=s1.toks) λ b o e=>hx' b o (Nat.ne_of_lt (Heap.lt_size e)) e
  show wpAny _ _ (assignInOrder [λ v=>bindName X.env y v,λ v=>bindName X.env x v] [u2,u1] >>= λ _=>pure Flow.next) _ _ _
  refine wpAny_bind (assignInOrder_cons (wpAny_bindName (Bn I3 hN hj (.inl hy) rw' (λ s2 I4=>?_) (.inr hy))))
  refine assignInOrder_cons (wpAny_bindName (Bn I4 hN hi (.inl hx) rv (λ s3 I5=>assignInOrder_nil (wpAny_pure ?_)) (.inr hx)))
  rw[List.set_comm _ _ (Ne.symm hij)]at I5
  exact⟨_,H1,I5,q1⟩
end
section
variable{X:Cx}{pos:Pos}
end
structure It where
  go:Nat->Hp->Prop
  yld:Nat->Hp->V->Hp->Prop
  stop:Nat->Hp->Prop
noncomputable def EJ(X:Cx)(pins:List (Addr × Obj))(H:Hp)(b:Addr):Prop:=
  H b=none/\b ≠ X.env.locals/\b ∉ X.fs/\(b ∈ X.ex ∨ X.s₀.heap.objs.size <= b)/\(∀ x c,X.env.cells.lookup x=some c->c ≠ b)/\∀ p ∈ X.pn ++ pins,p.1 ≠ b
theorem Inv.fpOk{X:Cx}{pins:List (Addr × Obj)}{σ:St}{H H':Hp}{s:Shared}{b:Addr}(I:Inv X pins σ H s)(hb:s.heap.objs.size <= b)(hn:H' b=none):EJ X pins H' b:=by
  refine⟨hn,Nat.ne_of_gt (Nat.lt_of_lt_of_le I.lt hb),I.nofs hb,.inr (Nat.le_trans I.sz hb),λ x c e z=>?_,λ p hp z=>?_⟩
  . obtain⟨v,q⟩:=I.cell x c e
    exact absurd (Nat.lt_of_lt_of_le q.lt (by rw[z];exact hb)) (Nat.lt_irrefl _)
  . exact absurd (Nat.lt_of_lt_of_le (Heap.lt_size (I.pin p hp).1) (by rw[z];exact hb)) (Nat.lt_irrefl _)
structure Turn(P:Program)(w:World)(K:PySem.W.Frag)(tg:Expr)(J:It)(fp:List Addr)(it:Addr)(tn:Nat->Heap->Prop):Prop where
  mem:it ∈ fp
  obj:∀ i h,tn i h->∀ b ∈ fp,∃ o,h.get? b=some o/\∀ v,o.data ≠ .cell v
  keep:∀ i h h',tn i h->(∀ b ∈ fp,∀ o,h.get? b=some o->h'.get? b=some o)->tn i h'
  item:∀ (X:Cx),X.prog=P->X.w=w->X.K=K->X.calm=true->∀ (i:Nat) (pins:List (Addr × Obj)) (s:Shared) (σ:St) (H:Hp) (E:Value->Shared->Prop),Inv X pins σ H s->(∀ b ∈ fp,EJ X pins H b)->tn i s.heap->J.go i H ->
    wpAny (model P w) X.A (pyNext (.ref it)) (λ r s1=>∃ u,r=some u /\
      wpAny (model P w) X.A (letOwnedTupleGo tg (.ref it) u) (λ _ s2=>∃ x H',Inv X pins σ H' s2/\RelV x u/\J.yld i H x H'/\tn (i + 1) s2.heap/\∀ b ∈ fp,H' b=none) E s1) E s
  done:∀ (X:Cx),X.prog=P->X.w=w->X.K=K->X.calm=true->∀ (i:Nat) (pins:List (Addr × Obj)) (s:Shared) (σ:St) (H:Hp) (E:Value->Shared->Prop),Inv X pins σ H s->(∀ b ∈ fp,EJ X pins H b)->tn i s.heap->J.stop i H ->
    wpAny (model P w) X.A (pyNext (.ref it)) (λ r s1=>r=none/\Inv X pins σ H s1) E s
  self:∀ (A:Around) (i:Nat) (s:Shared) (Q:Value->Shared->Prop) (E:Value->Shared->Prop),tn i s.heap->Q (.ref it) s->wpAny (model P w) A (pyIter (.ref it)) Q E s
noncomputable abbrev TI:=St->Hp->(It->Hp->Prop)->Prop
noncomputable def PIE(X:Cx)(pins:List (Addr × Obj))(σ:St)(tg:Expr)(R:It->Hp->Prop)(itv:Value)(s2:Shared):Prop:=
  ∃ (it:Addr) (fp:List Addr) (tn:Nat->Heap->Prop) (J:It) (H':Hp),itv=.ref it/\Inv X pins σ H' s2/\Turn X.prog X.w X.K tg J fp it tn/\tn 0 s2.heap/\(∀ b ∈ fp,EJ X pins H' b)/\R J H'
noncomputable def PI(X:Cx)(tg iter:Expr)(wi:TI):Prop:=
  ∀ (pins:List (Addr × Obj)) (s:Shared) (σ:St) (H:Hp) (R:It->Hp->Prop),Inv X pins σ H s->wi σ H R ->
    wpAny (model X.prog X.w) X.A (eval iter X.env) (λ v s1=>wpAny (model X.prog X.w) X.A (pyIter v) (PIE X pins σ tg R) X.xe s1) X.xe s
theorem Jd{M:Model}{A:Around}{E:Value->Shared->Prop}{s:Shared}{tg:Expr}{it:Addr}{u:Value}{o:Obj}{n:String}{vs:Array Value}{Q:Unit->Shared->Prop}(ho:s.heap.get? it=some o)(hc:o.cls=.type n)(hd:o.data=.fields vs)
    (hn:["enumerate","zip","dict_itemiterator","dict_reverseitemiterator","odict_iterator","itertools.zip_longest","itertools.pairwise"].contains n=false) (hQ:Q () s):wpAny M A (letOwnedTupleGo tg (.ref it) u) Q E s:=by
  unfold letOwnedTupleGo
  cases tg <;> first
    | exact wpAny_pure hQ
    | (cases u <;> first
        | exact wpAny_pure hQ
        | (refine wpAny_bind (wpAny_load ho ?_)
           rw[hc,hd]
           show wpAny M A (if(["enumerate","zip","dict_itemiterator","dict_reverseitemiterator","odict_iterator","itertools.zip_longest","itertools.pairwise"].contains n && vs[0]? == some (rawInt _))=true then _ else _) Q E s
           rw[if_neg (by intro h;rw[hn,Bool.false_and]at h;cases h)]
           exact wpAny_pure hQ))
noncomputable def Itl(K:PySem.W.Frag)(a:Addr):It:=
  ⟨λ i H=>∃ xs x,SqL K H a xs/\xs[i]? = some x,λ i H x H'=>H'=H/\∀ xs,SqL K H a xs->xs[i]? = some x,λ i H=>∃ xs,SqL K H a xs/\xs.length <= i⟩
noncomputable def Itt(K:PySem.W.Frag)(a:Addr):It:=
  ⟨λ i H=>∃ xs x,SqT K H a xs/\xs[i]? = some x,λ i H x H'=>H'=H/\∀ xs,SqT K H a xs->xs[i]? = some x,λ i H=>∃ xs,SqT K H a xs/\xs.length <= i⟩
noncomputable def Itr(lo:Int)(n:Nat):It:=⟨λ i _=>i < n,λ i H x H'=>H'=H/\x=.int (lo + i),λ i _=>n <= i⟩
theorem Jw{P:Program}{w:World}{K:PySem.W.Frag}{tg:Expr}(a it:Addr):Turn P w K tg (Itl K a) [it] it (λ i h=>h.IsListIter it a i) where
  mem:=by simp
  obj:=λ i h st b hb=>by
    have e:b=it:=by simpa using hb
    subst e
    obtain⟨o,e,c,d⟩:=st
    exact⟨o,e,λ v z=>by rw[d]at z;cases z⟩
  keep:=λ i h h' st k=>st.at λ o e=>k it (by simp) o e
  item:=by
    intro X hP hw hK hc i pins s σ H E I hf st hg
    subst hP hw hK
    obtain⟨xs,x,hq,hx⟩:=hg
    obtain⟨its,rv,p,hz⟩:=I.list hq
    obtain⟨u,hu,ru⟩:=rv.get hx
    obtain⟨f0,f1,f2,f3,f4,f5⟩:=hf it (by simp)
    refine wpAny_pyNext_list_item st p.isList (x:=u) (by simpa using hu) λ h' st' sb=>?_
    have I1:Inv X pins σ H { s with heap:=h' }:=I.turned (t':=s.toks) (λ b o hb e=>(sb.2 b hb).trans e) f0 f1 f3 f4 f5
    obtain⟨o,e,c,d⟩:=id st'
    exact⟨u,rfl,Jd (s:={ s with heap:=h' }) e c d (by decide) ⟨x,H,I1,ru,⟨rfl,λ ys hy=>by rw[I.list_inj hy hq];exact hx⟩,st',λ b hb=>(hf b hb).1⟩⟩
  done:=by
    intro X hP hw hK hc i pins s σ H E I hf st hg
    subst hP hw hK
    obtain⟨xs,hq,hx⟩:=hg
    obtain⟨its,rv,p,hz⟩:=I.list hq
    obtain⟨f0,f1,f2,f3,f4,f5⟩:=hf it (by simp)
    have hl:=rv.length
    exact wpAny_pyNext_list_end (I.ok.hd hc) st p.isList (by simp;omega) λ h' eb=>⟨rfl,I.turned (t':=s.toks) (λ b o hb e=>eb b o hb e) f0 f1 f3 f4 f5⟩
  self:=λ _ _ _ _ _ st h=>wpAny_pyIter_listiter st h
theorem J4{P:Program}{w:World}{K:PySem.W.Frag}{tg:Expr}(a it:Addr):Turn P w K tg (Itt K a) [it] it (λ i h=>h.IsTupleIter it a i) where
  mem:=by simp
  obj:=λ i h st b hb=>by
    have e:b=it:=by simpa using hb
    subst e
    obtain⟨o,e,c,d⟩:=st
    exact⟨o,e,λ v z=>by rw[d]at z;cases z⟩
  keep:=λ i h h' st k=>st.at λ o e=>k it (by simp) o e
  item:=by
    intro X hP hw hK hc i pins s σ H E I hf st hg
    subst hP hw hK
    obtain⟨xs,x,hq,hx⟩:=hg
    obtain⟨its,rv,p,hz⟩:=I.tuple hq
    obtain⟨u,hu,ru⟩:=rv.get hx
    obtain⟨f0,f1,f2,f3,f4,f5⟩:=hf it (by simp)
    refine wpAny_pyNext_tuple_item st (show s.heap.IsTuple a its.toArray from p) (x:=u) (by simpa using hu) λ h' st' sb=>?_
    have I1:Inv X pins σ H { s with heap:=h' }:=I.turned (t':=s.toks) (λ b o hb e=>(sb.2 b hb).trans e) f0 f1 f3 f4 f5
    obtain⟨o,e,c,d⟩:=id st'
    exact⟨u,rfl,Jd (s:={ s with heap:=h' }) e c d (by decide) ⟨x,H,I1,ru,⟨rfl,λ ys hy=>by rw[I.tuple_inj hy hq];exact hx⟩,st',λ b hb=>(hf b hb).1⟩⟩
  done:=by
    intro X hP hw hK hc i pins s σ H E I hf st hg
    subst hP hw hK
    obtain⟨xs,hq,hx⟩:=hg
    obtain⟨its,rv,p,hz⟩:=I.tuple hq
    obtain⟨f0,f1,f2,f3,f4,f5⟩:=hf it (by simp)
    have hl:=rv.length
    exact wpAny_pyNext_tuple_end (I.ok.hd hc) st (show s.heap.IsTuple a its.toArray from p) (by simp;omega) λ h' eb=>⟨rfl,I.turned (t':=s.toks) (λ b o hb e=>eb b o hb e) f0 f1 f3 f4 f5⟩
  self:=λ _ _ _ _ _ st h=>wpAny_pyIter_tupleiter st h
theorem J5{P:Program}{w:World}{K:PySem.W.Frag}{tg:Expr}(it:Addr)(lo:Int)(n:Nat):Turn P w K tg (Itr lo n) [it] it (λ i h=>IsRangeIter h it (lo + (i:Nat) * 1) ((n:Int) - (i:Nat)) 1) where
  mem:=by simp
  obj:=λ i h st b hb=>by
    have e:b=it:=by simpa using hb
    subst e
    exact⟨_,st,λ v z=>by
      have z':Data.fields _=Data.cell v:=z
      cases z'⟩
  keep:=λ i h h' st k=>k it (by simp) _ st
  item:=by
    intro X hP hw hK hc i pins s σ H E I hf st hg
    subst hP hw hK
    obtain⟨f0,f1,f2,f3,f4,f5⟩:=hf it (by simp)
    have W:=Walks.range (prog:=X.prog) (w:=X.w) (I.ok.hd hc) it lo 1 n
    refine W.item i s _ _ hg st λ v h' tk hv st' kk=>?_
    obtain⟨t,rfl⟩:=hv
    have I1:Inv X pins σ H { s with heap:=h',toks:=tk }:=I.turned (λ b o hb e=>kk b o (by simpa using hb) e) f0 f1 f3 f4 f5
    refine⟨_,rfl,Jd (s:={ s with heap:=h',toks:=tk }) (n:="range_iterator") st' rfl rfl (by decide) ⟨.int (lo + i),H,I1,⟨t,?_⟩,⟨rfl,rfl⟩,st',λ b hb=>(hf b hb).1⟩⟩
    rw[Int.mul_one]
  done:=by
    intro X hP hw hK hc i pins s σ H E I hf st hg
    subst hP hw hK
    obtain⟨f0,f1,f2,f3,f4,f5⟩:=hf it (by simp)
    exact wpAny_pyNext_range_end (I.ok.hd hc) st (by have:n <= i:=hg;omega) λ h' eb=>⟨rfl,I.turned (t':=s.toks) (λ b o hb e=>eb b o hb e) f0 f1 f3 f4 f5⟩
  self:=λ _ _ _ _ _ st h=>wpAny_pyIter_rangeiter st h
end L2
namespace L2
open PySem PySem.Spec PyProof.Rows
section
variable{X:Cx}{tg:Expr}
noncomputable def Gz(K:PySem.W.Frag)(tl:TE):TI:=λ σ H R=>tl σ H λ x H1=>∃ a,x=.ref a/\(∃ xs,SqL K H1 a xs)/\R (Itl K a) H1
noncomputable def Jb(K:PySem.W.Frag)(tl:TE):TI:=λ σ H R=>tl σ H λ x H1=>∃ a,x=.ref a/\(∃ xs,SqT K H1 a xs)/\R (Itt K a) H1
theorem Ni{l:Expr}{tl:TE}(hl:PE X l tl):PI X tg l (Gz X.K tl):=by
  intro pins s σ H R I h
  refine thn (hl pins s σ H _ I h) λ v s1 ⟨x,H1,I1,r1,q1⟩=>?_
  obtain⟨a,e,⟨xs,hq⟩,q⟩:=q1
  subst e
  cases r1
  obtain⟨its,rv,p,hz⟩:=I1.list hq
  refine wpAny_pyIter_list p.isList ?_
  refine⟨s1.heap.objs.size,[s1.heap.objs.size],_,_,H1,rfl,I1.kept (t':=s1.toks) λ b o e=>Heap.get?_push_of_some _ e,Jw a _,⟨_,Heap.get?_push_size _ rfl,rfl,rfl⟩,λ b hb=>?_,q⟩
  have e:b=s1.heap.objs.size:=by simpa using hb
  subst e
  exact I1.fpOk (Nat.le_refl _) (I1.hok.fresh (Nat.le_refl _))
theorem PN{l:Expr}{tl:TE}(hl:PE X l tl):PI X tg l (Jb X.K tl):=by
  intro pins s σ H R I h
  refine thn (hl pins s σ H _ I h) λ v s1 ⟨x,H1,I1,r1,q1⟩=>?_
  obtain⟨a,e,⟨xs,hq⟩,q⟩:=q1
  subst e
  cases r1
  obtain⟨its,rv,p,hz⟩:=I1.tuple hq
  refine wpAny_pyIter_tuple (show s1.heap.IsTuple a its.toArray from p) ?_
  refine⟨s1.heap.objs.size,[s1.heap.objs.size],_,_,H1,rfl,I1.kept (t':=s1.toks) λ b o e=>Heap.get?_push_of_some _ e,J4 a _,⟨_,Heap.get?_push_size _ rfl,rfl,rfl⟩,λ b hb=>?_,q⟩
  have e:b=s1.heap.objs.size:=by simpa using hb
  subst e
  exact I1.fpOk (Nat.le_refl _) (I1.hok.fresh (Nat.le_refl _))
theorem LC{pins:List (Addr × Obj)}{σ:St}{H:Hp}{s:Shared}{R:It->Hp->Prop}{E:Value->Shared->Prop}{lo hi:Int}{t u v:Tok}{tk:Nat}(I:Inv X pins σ H s)(h1:-(2 ^ 62) <= lo)(h2:lo < 2 ^ 62)(h3:-(2 ^ 62) <= hi)(h4:hi < 2 ^ 62)
    (q:R (Itr lo (hi - lo).toNat) H):wpAny (model X.prog X.w) X.A (pyIter (.ref s.heap.objs.size)) (PIE X pins σ tg R) E { s with heap:=s.heap.push { cls:=.type "range",data:=.fields #[.int lo t,.int hi u,.int 1 v] },toks:=tk }:=by
  refine wpAny_pyIter_range (IsRange.new ..) (small_one h1 h2 h3 h4) ?_
  have I1:Inv X pins σ H { s with heap:=s.heap.push { cls:=.type "range",data:=.fields #[.int lo t,.int hi u,.int 1 v] },toks:=tk }:=I.kept λ b o e=>Heap.get?_push_of_some _ e
  refine⟨(s.heap.push { cls:=.type "range",data:=.fields #[.int lo t,.int hi u,.int 1 v] }).objs.size,[(s.heap.push { cls:=.type "range",data:=.fields #[.int lo t,.int hi u,.int 1 v] }).objs.size],_,_,H,rfl,
    I1.kept (t':=tk) λ b o e=>Heap.get?_push_of_some _ e,J5 _ lo (hi - lo).toNat,?_,λ b hb=>?_,q⟩
  . have e1:lo + ((0:Nat):Int) * 1=lo:=by simp
    have e2:(((hi - lo).toNat:Nat):Int) - ((0:Nat):Int)=Builtin.Range.rangeSize lo hi 1:=by rw[rangeSize_one];split <;> omega
    show IsRangeIter _ _ (lo + ((0:Nat):Int) * 1) ((((hi - lo).toNat:Nat):Int) - ((0:Nat):Int)) 1
    rw[e1,e2]
    exact Heap.get?_push_size _ rfl
  . have e:b=(s.heap.push { cls:=.type "range",data:=.fields #[.int lo t,.int hi u,.int 1 v] }).objs.size:=by simpa using hb
    subst e
    exact I1.fpOk (Nat.le_refl _) (I1.hok.fresh (Nat.le_refl _))
noncomputable def Jc(ta:TA):TI:=λ σ H R=>ta σ H λ vs H1=>∃ j:Int,vs=[.int j]/\-(2 ^ 62) <= j/\j < 2 ^ 62/\R (Itr 0 j.toNat) H1
theorem KA{a:Expr}{ta:TA}{p pos:Pos}(hg:Gl X "range")(hm:X.mg "range"=none)(ha:PA X [a] ta)(hs:starEach [a] X.env=[(false,eval a X.env)]:=by rfl):PI X tg (.Call (.Name "range" p) [a] [] pos) (Jc ta):=by
  intro pins s σ H R I h
  refine Call_ (Fs I hg hm boot_range (PyProof.Rows.callWith_type1 (thn (ha pos pins s σ H _ I h) λ us s1 ⟨vs,H1,I1,r1,q1⟩=>?_) hs rfl))
  obtain⟨j,e,q1,q2,q⟩:=q1
  subst e
  cases r1 with
  | cons r rr=>
    cases rr
    obtain⟨t,rfl⟩:=r
    exact call_range_1 (LC I1 (by omega) (by omega) q1 q2 (by simpa using q))
noncomputable def Ks(wi:TI)(g:TG)(tb:TS):TS:=λ D σ H=>wi σ H λ J H1=>∃ W:Nat->Nat->St->Hp->Prop,(∃ m,W 0 m σ H1)/\∀ i m σ H,W i m σ H ->
  (J.stop i H/\D.nx σ H) ∨ (J.go i H/\∃ N:St->Hp->Prop,(∀ σ' H',N σ' H'->∃ m',m' < m/\W (i + 1) m' σ' H')/\∀ x H',J.yld i H x H'->g x σ H' λ σ2 H2=>tb { D with nx:=N,ct:=N,bk:=D.nx } σ2 H2)
noncomputable def Ea(fp:List Addr)(h:Heap):List (Addr × Obj):=fp.filterMap λ b=>(h.get? b).map λ o=>(b,o)
theorem Cv{fp:List Addr}{h:Heap}{b:Addr}{o:Obj}(hb:b ∈ fp)(e:h.get? b=some o):(b,o) ∈ Ea fp h:=List.mem_filterMap.mpr ⟨b,hb,by rw[e];rfl⟩
theorem KD{fp:List Addr}{h:Heap}{p:Addr × Obj}(hp:p ∈ Ea fp h):p.1 ∈ fp/\h.get? p.1=some p.2:=by
  obtain⟨b,hb,e⟩:=List.mem_filterMap.mp hp
  cases q:h.get? b with
  | none=>rw[q]at e;cases e
  | some o=>
    rw[q]at e
    have e':(b,o)=p:=Option.some.inj e
    subst e'
    exact⟨hb,q⟩
theorem Inv.pinned{pins:List (Addr × Obj)}{σ:St}{H:Hp}{s:Shared}{fp:List Addr}(I:Inv X pins σ H s)(hf:∀ b ∈ fp,EJ X pins H b)(ho:∀ b ∈ fp,∃ o,s.heap.get? b=some o/\∀ v,o.data ≠ .cell v):Inv X (pins ++ Ea fp s.heap) σ H s:=
  I.pins_of λ p hp=>(List.mem_append.mp hp).elim (λ z=>I.pin p (List.mem_append_right _ z)) λ z=>by
    obtain⟨hb,e⟩:=KD z
    obtain⟨f0,f1,f2,_⟩:=hf p.1 hb
    obtain⟨o,e',d⟩:=ho p.1 hb
    rw[e]at e';cases e'
    exact⟨e,f0,f1,f2,d⟩
theorem Inv.unpinned{pins pl:List (Addr × Obj)}{σ:St}{H:Hp}{s:Shared}(I:Inv X (pins ++ pl) σ H s):Inv X pins σ H s:=I.pins_of λ p hp=>I.pin p (List.mem_append_right _ (List.mem_append_left _ hp))
theorem PK{iter:Expr}{body:List Stmt}{wi:TI}{g:TG}{tb:TS}{pos:Pos}(hp:PassesOwn (model X.prog X.w) X.A X.env X.xe)(hc:X.calm=true)(hi:PI X tg iter wi)(hg:PG X tg g)(hb:PSs X body tb)
    (hs:∀ x,foldedSetIterable iter X.env x=pure x:=by intro _;rfl):PS X (.For tg iter body [] pos) (Ks wi g tb):=by
  intro pins s σ H D I h
  refine wpAny_For (thn (hi pins s σ H _ I h) λ v s1 h1=>thn h1 λ itv s2 h2=>?_) hs
  obtain⟨it,fp,tn,J,H2,e,I2,T,st2,f2,W,⟨m0,w0⟩,turn⟩:=h2
  subst e
  -- what stays true of the iterator's objects through the loop
  have stat:∀ {H':Hp},(∀ b ∈ fp,H' b=none)->∀ b ∈ fp,EJ X pins H' b:=λ hn b hb=>⟨hn b hb,(f2 b hb).2⟩
  refine codeAny_forLoop_any (λ n s'=>∃ i σ' H',Inv X pins σ' H' s'/\tn i s'.heap/\(∀ b ∈ fp,H' b=none)/\W i n σ' H') ?_ m0 ⟨0,σ,H2,I2,st2,λ b hb=>(f2 b hb).1,w0⟩
  rintro n s3 ⟨i,σ3,H3,I3,st3,fr3,w3⟩
  rcases turn i n σ3 H3 w3 with⟨stop,qn⟩|⟨go,N,hN,step⟩
  . refine wpAny_passesOwn hp (thn (T.done X rfl rfl rfl hc i pins s3 σ3 H3 X.xe I3 (stat fr3) st3 stop) λ r s4 ⟨hr,I4⟩=>?_)
    subst hr
    exact wpAny_execs_nil ⟨σ3,H3,I4,qn⟩
  . refine wpAny_passesOwn hp (thn (T.item X rfl rfl rfl hc i pins s3 σ3 H3 X.xe I3 (stat fr3) st3 go) λ r s4 ⟨u,hr,h4⟩=>?_)
    subst hr
    refine wpAny_passesOwn hp (thn h4 λ _ s5 ⟨x,H5,I5,r5,y5,st5,fr5⟩=>?_)
    have I5':=I5.pinned (stat fr5) (T.obj _ _ st5)
    refine wpAny_passesOwn hp (thn (hg _ s5 σ3 H5 x u _ I5' r5 (step x H5 y5)) λ _ s6 ⟨σ6,H6,I6,q6⟩=>?_)
    refine wpAny_passesOwn hp (thn (hb _ s6 σ6 H6 _ I6 q6) λ f s7 q7=>?_)
    have again:∀ {σ7:St} {H7:Hp},Inv X (pins ++ Ea fp s5.heap) σ7 H7 s7->N σ7 H7->∃ m,m < n/\∃ i σ' H',Inv X pins σ' H' s7/\tn i s7.heap/\(∀ b ∈ fp,H' b=none)/\W i m σ' H':=λ {σ7 H7} I7 n7=>by
      obtain⟨m',hm,w7⟩:=hN σ7 H7 n7
      refine⟨m',hm,i + 1,σ7,H7,I7.unpinned,T.keep _ _ _ st5 λ b hb o e=>(I7.pin (b,o) (List.mem_append_right _ (List.mem_append_right _ (Cv hb e)))).1,λ b hb=>?_,w7⟩
      obtain⟨o,e,d⟩:=T.obj _ _ st5 b hb
      exact(I7.pin (b,o) (List.mem_append_right _ (List.mem_append_right _ (Cv hb e)))).2.1
    cases f with
    | next=>obtain⟨σ7,H7,I7,n7⟩:=q7;exact again I7 n7
    | cont=>obtain⟨σ7,H7,I7,n7⟩:=q7;exact again I7 n7
    | brk=>obtain⟨σ7,H7,I7,q7⟩:=q7;exact⟨σ7,H7,I7.unpinned,q7⟩
    | ret v=>obtain⟨x7,σ7,H7,I7,r7,q7⟩:=q7;exact⟨x7,σ7,H7,I7.unpinned,r7,q7⟩
end
end L2
namespace L2
open PySem PySem.Spec PyProof.Rows
noncomputable abbrev R2:=V->V->Hp->VK->Prop
noncomputable def OpR(X:Cx)(f:Value->Value->Sem Value)(r:R2):Prop:=
  ∀ (pins:List (Addr × Obj)) (s:Shared) (σ:St) (H:Hp) (x y:V) (v u:Value) (Q:VK),Inv X pins σ H s->RelV x v->RelV y u->r x y H Q ->
    wpAny (model X.prog X.w) X.A (f v u) (EP X pins σ Q) X.xe s
noncomputable def UnR(X:Cx)(f:Value->Sem Value)(r:V->Hp->VK->Prop):Prop:=
  ∀ (pins:List (Addr × Obj)) (s:Shared) (σ:St) (H:Hp) (x:V) (v:Value) (Q:VK),Inv X pins σ H s->RelV x v->r x H Q ->
    wpAny (model X.prog X.w) X.A (f v) (EP X pins σ Q) X.xe s
noncomputable def BR(X:Cx)(f:Value)(r:List V->Hp->VK->Prop):Prop:=
  ∀ (pins:List (Addr × Obj)) (s:Shared) (σ:St) (H:Hp) (xs:List V) (us:List Value) (Q:VK),Inv X pins σ H s->Vals xs us->r xs H Q ->
    wpAny (model X.prog X.w) X.A (call f us) (EP X pins σ Q) X.xe s
noncomputable def S4(X:Cx)(r:V->Hp->(Bool->Hp->Prop)->Prop):Prop:=
  ∀ (pins:List (Addr × Obj)) (s:Shared) (σ:St) (H:Hp) (x:V) (v:Value) (Q:Bool->Hp->Prop),Inv X pins σ H s->RelV x v->r x H Q ->
    wpAny (model X.prog X.w) X.A (truthy v) (TP X pins σ Q) X.xe s
noncomputable def tOp(r:R2)(ta tb:TE):TE:=λ σ H Q=>ta σ H λ x H1=>tb σ H1 λ y H2=>r x y H2 Q
noncomputable def tUn(r:V->Hp->VK->Prop)(ta:TE):TE:=λ σ H Q=>ta σ H λ x H1=>r x H1 Q
noncomputable def rI(C:Int->Int->Prop)(g:Int->Int->V):R2:=λ x y H Q=>∃ i j,x=.int i/\y=.int j/\C i j/\Q (g i j) H
noncomputable def rI0(g:Int->Int->V):R2:=λ x y H Q=>∃ i j,x=.int i/\y=.int j/\Q (g i j) H
noncomputable def rU(g:Int->V):V->Hp->VK->Prop:=λ x H Q=>∃ i,x=.int i/\Q (g i) H
section
variable{X:Cx}{a b c:Expr}{ta tb tc:TE}{pos:Pos}
theorem QD(ha:PE X a ta)(hb:PE X b tb){pins:List (Addr × Obj)}{s:Shared}{σ:St}{H:Hp}{R:V->V->Hp->Prop}(I:Inv X pins σ H s)
    (h:ta σ H λ x H1=>tb σ H1 λ y H2=>R x y H2) {Q:Value->Shared->Prop} {f:Value->Value->Sem Value}
    (hf:∀ v u s2 x y H2,Inv X pins σ H2 s2->RelV x v->RelV y u->R x y H2->wpAny (model X.prog X.w) X.A (f v u) Q X.xe s2) :
    wpAny (model X.prog X.w) X.A (eval a X.env) (λ v s₁=>wpAny (model X.prog X.w) X.A (eval b X.env) (λ u s₂=>wpAny (model X.prog X.w) X.A (f v u) Q X.xe s₂) X.xe s₁) X.xe s:=by
  refine thn (ha pins s σ H _ I h) λ v s1 ⟨x,H1,I1,r1,q1⟩=>?_
  refine thn (hb pins s1 σ H1 _ I1 q1) λ u s2 ⟨y,H2,I2,r2,q2⟩=>?_
  exact hf v u s2 x y H2 I2 r1 r2 q2
theorem MR{op:Operator}{r:R2}(ho:OpR X (binaryOp op) r)(ha:PE X a ta)(hb:PE X b tb):PE X (.BinOp a op b pos) (tOp r ta tb):=by
  intro pins s σ H Q I h
  exact wpAny_BinOp (QD ha hb I h λ v u s2 x y H2 I2 rx ry q=>ho pins s2 σ H2 x y v u Q I2 rx ry q)
theorem Qn{op:UnaryOp}{r:V->Hp->VK->Prop}(ho:UnR X (unaryOp op) r)(ha:PE X a ta):PE X (.UnaryOp op a pos) (tUn r ta):=by
  intro pins s σ H Q I h
  exact UnaryOp_ (thn (ha pins s σ H _ I h) λ v s1 ⟨x,H1,I1,r1,q1⟩=>ho pins s1 σ H1 x v Q I1 r1 q1)
theorem opI{f:Value->Value->Sem Value}{C:Int->Int->Prop}{g:Int->Int->Int}
    (rule:∀ (i j:Int) (t u:Tok) (s:Shared) (Q:Value->Shared->Prop) (E:Value->Shared->Prop),C i j->Q (.int (g i j) s.toks) { s with toks:=s.toks + 1 }->wpAny (model X.prog X.w) X.A (f (.int i t) (.int j u)) Q E s) :
    OpR X f (rI C λ i j=>.int (g i j)):=by
  intro pins s σ H x y v u Q I rx ry h
  obtain⟨i,j,rfl,rfl,hc,q⟩:=h
  obtain⟨t,rfl⟩:=rx
  obtain⟨t',rfl⟩:=ry
  exact rule i j t t' s _ _ hc ⟨.int (g i j),H,I.tok _,⟨_,rfl⟩,q⟩
theorem Pd{f:Value->Value->Sem Value}{g:Int->Int->Int}
    (rule:∀ (i j:Int) (t u:Tok) (s:Shared) (Q:Value->Shared->Prop) (E:Value->Shared->Prop),Q (.int (g i j) s.toks) { s with toks:=s.toks + 1 }->wpAny (model X.prog X.w) X.A (f (.int i t) (.int j u)) Q E s) :
    OpR X f (rI0 λ i j=>.int (g i j)):=by
  intro pins s σ H x y v u Q I rx ry h
  obtain⟨i,j,rfl,rfl,q⟩:=h
  obtain⟨t,rfl⟩:=rx
  obtain⟨t',rfl⟩:=ry
  exact rule i j t t' s _ _ ⟨.int (g i j),H,I.tok _,⟨_,rfl⟩,q⟩
theorem JU{f:Value->Value->Sem Value}{g:Int->Int->Bool}
    (rule:∀ (i j:Int) (t u:Tok) (s:Shared) (Q:Value->Shared->Prop) (E:Value->Shared->Prop),Q (.bool (g i j)) s->wpAny (model X.prog X.w) X.A (f (.int i t) (.int j u)) Q E s) :
    OpR X f (rI0 λ i j=>.bl (g i j)):=by
  intro pins s σ H x y v u Q I rx ry h
  obtain⟨i,j,rfl,rfl,q⟩:=h
  obtain⟨t,rfl⟩:=rx
  obtain⟨t',rfl⟩:=ry
  exact rule i j t t' s _ _ ⟨.bl (g i j),H,I,rfl,q⟩
noncomputable def QP(i j:Int):Prop:=0 < j/\j < 1073741824
noncomputable def QM(i j:Int):Prop:=0 <= j/\j <= 1000000/\i.natAbs < 2 ^ 64
noncomputable def CMul(i j:Int):Prop:=(-(2 ^ 64) < i/\i < 2 ^ 64) ∨ (-(2 ^ 64) < j/\j < 2 ^ 64)
theorem CMul.ok{i j:Int}(h:CMul i j):IntMulOk i j:=by
  rcases h with⟨h1,h2⟩|⟨h1,h2⟩
  . exact .of_left (intBits_le_64 h1 h2)
  . exact .of_right (intBits_le_64 h1 h2)
theorem B3:OpR X (binaryOp .Add) (rI0 λ i j=>.int (i + j)):=Pd λ _ _ _ _ _ _ _ q=>add_int q
theorem Eb:OpR X (binaryOp .Sub) (rI0 λ i j=>.int (i - j)):=Pd λ _ _ _ _ _ _ _ q=>sub_int q
theorem Cm:OpR X (binaryOp .Mult) (rI CMul λ i j=>.int (i * j)):=opI λ _ _ _ _ _ _ _ hc q=>mul_int q hc.ok
theorem GF:OpR X (binaryOp .FloorDiv) (rI QP λ i j=>.int (i / j)):=opI λ i j _ _ _ _ _ hc q=>by
  have h1:(0:Int) < j:=hc.1
  have h2:j < 1073741824:=hc.2
  exact floordiv_int (by omega) (by rw[Int.fdiv_eq_ediv_of_nonneg i (by omega)];exact q) (.inl (PyProof.noPylong_small (by omega)))
theorem Cn:OpR X (binaryOp .Mod) (rI (λ _ j=>0 < j) λ i j=>.int (i % j)):=opI λ i j _ _ _ _ _ hc q=>by
  have h1:(0:Int) < j:=hc
  exact mod_int' (by omega) (by rw[Int.fmod_eq_emod_of_nonneg i (by omega)];exact q)
theorem PY:OpR X (binaryOp .Pow) (rI QM λ i j=>.int (i ^ j.toNat)):=opI λ _ _ _ _ _ _ _ hc q=>pow_int_small hc.1 hc.2.1 hc.2.2 q
theorem unI{f:Value->Sem Value}{g:Int->Int}
    (rule:∀ (i:Int) (t:Tok) (s:Shared) (Q:Value->Shared->Prop) (E:Value->Shared->Prop),Q (.int (g i) s.toks) { s with toks:=s.toks + 1 }->wpAny (model X.prog X.w) X.A (f (.int i t)) Q E s) :
    UnR X f (rU λ i=>.int (g i)):=by
  intro pins s σ H x v Q I rx h
  obtain⟨i,rfl,q⟩:=h
  obtain⟨t,rfl⟩:=rx
  exact rule i t s _ _ ⟨.int (g i),H,I.tok _,⟨_,rfl⟩,q⟩
theorem OT:UnR X (unaryOp .USub) (rU λ i=>.int (-i)):=unI λ _ _ _ _ _ q=>neg_int q
end
noncomputable def HU:V->V->Bool
  | .non,.non=>true | .non,.int _=>true | .int _,.non=>true | .non,.bl _=>true | .bl _,.non=>true | .non,.str _=>true | .str _,.non=>true
  | .int _,.int _=>true | .bl _,.bl _=>true | .str _,.str _=>true | .byt _,.byt _=>true
  | .int _,.str _=>true | .str _,.int _=>true | .bl _,.str _=>true | .str _,.bl _=>true
  | _,_=>false
noncomputable def rEq:R2:=λ x y H Q=>HU x y=true/\Q (.bl (decide (x=y))) H
noncomputable def rNe:R2:=λ x y H Q=>HU x y=true/\Q (.bl (!decide (x=y))) H
theorem Ir{i j:Int}:decide (V.int i=V.int j)=(i == j):=by
  rw[Bool.eq_iff_iff]
  simp
theorem Kb{i j:Bool}:decide (V.bl i=V.bl j)=(i == j):=by
  rw[Bool.eq_iff_iff]
  simp
theorem Iq{i j:Str}:decide (V.str i=V.str j)=(i == j):=by
  rw[Bool.eq_iff_iff]
  simp
theorem Is{i j:Array UInt8}:decide (V.byt i=V.byt j)=(i.toList == j.toList):=by
  rw[Bool.eq_iff_iff]
  cases i
  cases j
  simp
section
variable{X:Cx}{a b c:Expr}{ta tb tc:TE}{pos:Pos}
theorem AX{pins:List (Addr × Obj)}{σ:St}{H:Hp}{s:Shared}{Q:VK}{k k':Bool}(I:Inv X pins σ H s)(q:Q (.bl k) H)(e:k=k'):EP X pins σ Q (.bool k') s:=by
  subst e
  exact⟨.bl k,H,I,rfl,q⟩
theorem BC:OpR X (compareOp .Eq) rEq:=by
  intro pins s σ H x y v u Q I rx ry h
  obtain⟨hs,q⟩:=h
  cases x with
  | non=>
    cases rx
    cases y with
    | non=>cases ry;exact PySem.EqNone.eq_none_none (AX I q (by simp))
    | bl j=>cases ry;exact PySem.EqNone.eq_none_bool (AX I q (by simp))
    | int j=>obtain⟨t',rfl⟩:=ry;exact PySem.EqNone.eq_none_int (AX I q (by simp))
    | str j=>obtain⟨t',rfl⟩:=ry;exact PySem.EqNone.eq_none_str (AX I q (by simp))
    | _=>exact absurd (show false=true from hs) Bool.false_ne_true
  | bl i=>
    cases rx
    cases y with
    | non=>cases ry;exact PySem.EqNone.eq_bool_none (AX I q (by simp))
    | bl j=>cases ry;exact eq_bool (AX I q Kb)
    | str j=>obtain⟨t',rfl⟩:=ry;exact PySem.EqMixed.eq_bool_str (AX I q (by simp))
    | _=>exact absurd (show false=true from hs) Bool.false_ne_true
  | int i=>
    obtain⟨t,rfl⟩:=rx
    cases y with
    | non=>cases ry;exact PySem.EqNone.eq_int_none (AX I q (by simp))
    | int j=>obtain⟨t',rfl⟩:=ry;exact eq_int (AX I q Ir)
    | str j=>obtain⟨t',rfl⟩:=ry;exact PySem.EqMixed.eq_int_str (AX I q (by simp))
    | _=>exact absurd (show false=true from hs) Bool.false_ne_true
  | str i=>
    obtain⟨t,rfl⟩:=rx
    cases y with
    | non=>cases ry;exact PySem.EqNone.eq_str_none (AX I q (by simp))
    | bl j=>cases ry;exact PySem.EqMixed.eq_str_bool (AX I q (by simp))
    | int j=>obtain⟨t',rfl⟩:=ry;exact PySem.EqMixed.eq_str_int (AX I q (by simp))
    | str j=>obtain⟨t',rfl⟩:=ry;exact eq_str (AX I q Iq)
    | _=>exact absurd (show false=true from hs) Bool.false_ne_true
  | byt i=>
    obtain⟨t,rfl⟩:=rx
    cases y with
    | byt j=>obtain⟨t',rfl⟩:=ry;exact PySem.W.eq_bytes (AX I q Is)
    | _=>exact absurd (show false=true from hs) Bool.false_ne_true
  | _=>cases y <;> exact absurd (show false=true from hs) Bool.false_ne_true
theorem Fh:OpR X (compareOp .NotEq) rNe:=by
  intro pins s σ H x y v u Q I rx ry h
  obtain⟨hs,q⟩:=h
  cases x with
  | non=>
    cases rx
    cases y with
    | non=>cases ry;exact PySem.EqNone.ne_none_none (AX I q (by simp))
    | bl j=>cases ry;exact PySem.EqNone.ne_none_bool (AX I q (by simp))
    | int j=>obtain⟨t',rfl⟩:=ry;exact PySem.EqNone.ne_none_int (AX I q (by simp))
    | str j=>obtain⟨t',rfl⟩:=ry;exact PySem.EqNone.ne_none_str (AX I q (by simp))
    | _=>exact absurd (show false=true from hs) Bool.false_ne_true
  | bl i=>
    cases rx
    cases y with
    | non=>cases ry;exact PySem.EqNone.ne_bool_none (AX I q (by simp))
    | bl j=>cases ry;exact ne_bool (AX I q (congrArg not Kb))
    | str j=>obtain⟨t',rfl⟩:=ry;exact PySem.EqMixed.ne_bool_str (AX I q (by simp))
    | _=>exact absurd (show false=true from hs) Bool.false_ne_true
  | int i=>
    obtain⟨t,rfl⟩:=rx
    cases y with
    | non=>cases ry;exact PySem.EqNone.ne_int_none (AX I q (by simp))
    | int j=>obtain⟨t',rfl⟩:=ry;exact ne_int (AX I q (congrArg not Ir))
    | str j=>obtain⟨t',rfl⟩:=ry;exact PySem.EqMixed.ne_int_str (AX I q (by simp))
    | _=>exact absurd (show false=true from hs) Bool.false_ne_true
  | str i=>
    obtain⟨t,rfl⟩:=rx
    cases y with
    | non=>cases ry;exact PySem.EqNone.ne_str_none (AX I q (by simp))
    | bl j=>cases ry;exact PySem.EqMixed.ne_str_bool (AX I q (by simp))
    | int j=>obtain⟨t',rfl⟩:=ry;exact PySem.EqMixed.ne_str_int (AX I q (by simp))
    | str j=>obtain⟨t',rfl⟩:=ry;exact ne_str (AX I q (congrArg not Iq))
    | _=>exact absurd (show false=true from hs) Bool.false_ne_true
  | byt i=>
    obtain⟨t,rfl⟩:=rx
    cases y with
    | byt j=>obtain⟨t',rfl⟩:=ry;exact PySem.W.ne_bytes (AX I q (congrArg not Is))
    | _=>exact absurd (show false=true from hs) Bool.false_ne_true
  | _=>cases y <;> exact absurd (show false=true from hs) Bool.false_ne_true
theorem JT:OpR X (compareOp .Lt) (rI0 λ i j=>.bl (decide (i < j))):=JU λ _ _ _ _ _ _ _ q=>lt_int q
theorem Qr:OpR X (compareOp .LtE) (rI0 λ i j=>.bl (decide (i <= j))):=JU λ _ _ _ _ _ _ _ q=>le_int q
theorem MW:OpR X (compareOp .Gt) (rI0 λ i j=>.bl (decide (j < i))):=JU λ _ _ _ _ _ _ _ q=>gt_int q
theorem Qs:OpR X (compareOp .GtE) (rI0 λ i j=>.bl (decide (j <= i))):=JU λ _ _ _ _ _ _ _ q=>ge_int q
theorem OpR.or{f:Value->Value->Sem Value}{r r':R2}(h:OpR X f r)(h':OpR X f r'):OpR X f (λ x y H Q=>r x y H Q ∨ r' x y H Q):=by
  intro pins s σ H x y v u Q I rx ry q
  rcases q with q|q
  . exact h pins s σ H x y v u Q I rx ry q
  . exact h' pins s σ H x y v u Q I rx ry q
theorem KF(b:Expr){op:CmpOp}(h:op ≠ .In:=by decide)(h2:op ≠ .NotIn:=by decide):behindInMarks op b=false:=by
  have e1:(op == CmpOp.In)=false:=by cases op <;> first|rfl|exact absurd rfl h
  have e2:(op == CmpOp.NotIn)=false:=by cases op <;> first|rfl|exact absurd rfl h2
  cases b <;> simp[behindInMarks,e1,e2]
noncomputable def Gu(t:TE):TT:=λ σ H Q=>t σ H λ x H'=>∃ k,x=.bl k/\Q k H'
theorem Ij{op:CmpOp}{r:R2}(ho:OpR X (compareOp op) r)(ha:PE X a ta)(hb:PE X b tb)(hm:behindInMarks op b=false):PT X (.Compare a [op] [b] pos) (Gu (tOp r ta tb)):=by
  intro pins s σ H Q I h
  refine wpAny_isTrue_Compare1 (thn (ha pins s σ H _ I h) λ v s1 ⟨x,H1,I1,r1,q1⟩=>thn (hb pins s1 σ H1 _ I1 q1) λ u s2 ⟨y,H2,I2,r2,q2⟩=>
    thn (ho pins s2 σ H2 x y v u _ I2 r1 r2 q2) λ c s3 ⟨z,H3,I3,r3,k,e,q3⟩=>?_) hm
  subst e
  cases r3
  exact wpAny_truthy_bool ⟨H3,I3,q3⟩
noncomputable def IK(K:PySem.W.Frag)(x:V)(H:Hp)(k:Bool):Prop:=
  match x with
  | .non=>k=false
  | .bl b=>k=b
  | .int i=>k=(i != 0)
  | .str y=>y.length <= sizeLine/\k=((y.length:Int) != 0)
  | .byt y=>y.size <= sizeLine/\k=((y.size:Int) != 0)
  | .ref p=>(∃ xs,SqL K H p xs/\k=!xs.isEmpty) ∨ (∃ xs,SqT K H p xs/\k=!xs.isEmpty) ∨ ∃ kvs,H p=some (.dK kvs)/\k=!kvs.isEmpty
  | _=>False
theorem Ja{κ:Type}{kvs:List (κ × V)}{vs:List (κ × Value)}(r:KV kvs vs):(!vs.isEmpty)=!kvs.isEmpty:=by
  cases r <;> rfl
theorem Ft{xs:List V}{its:List Value}(r:Vals xs its):(!its.toArray.isEmpty)=!xs.isEmpty:=by
  cases r <;> simp
theorem Em:(sizeLine:Nat) < 2 ^ 63:=by rw[sizeLine_eq];decide
theorem OV:S4 X (λ x H Q=>∃ k,IK X.K x H k/\Q k H):=by
  intro pins s σ H x v Q I rx h
  obtain⟨k,e,q⟩:=h
  have hl:=Em
  have hs:sizeLine=16777216:=sizeLine_eq
  cases x with
  | non=>
    cases rx
    have e':k=false:=e
    subst e'
    exact truthy_none ⟨H,I,q⟩
  | bl b=>
    cases rx
    have e':k=b:=e
    subst e'
    exact wpAny_truthy_bool ⟨H,I,q⟩
  | int i=>
    obtain⟨t,rfl⟩:=rx
    have e':k=(i != 0):=e
    subst e'
    exact PySem.P.truthy_int ⟨H,I,q⟩
  | str y=>
    obtain⟨t,rfl⟩:=rx
    obtain⟨hy,e'⟩:y.length <= sizeLine/\k=((y.length:Int) != 0):=e
    subst e'
    exact PySem.P.truthy_str (by omega) ⟨H,I.tok _,q⟩
  | byt y=>
    obtain⟨t,rfl⟩:=rx
    obtain⟨hy,e'⟩:y.size <= sizeLine/\k=((y.size:Int) != 0):=e
    subst e'
    exact PySem.W.truthy_bytes (by omega) ⟨H,I.tok _,q⟩
  | ref p=>
    cases rx
    have e':(∃ xs,SqL X.K H p xs/\k=!xs.isEmpty) ∨ (∃ xs,SqT X.K H p xs/\k=!xs.isEmpty) ∨ ∃ kvs,H p=some (.dK kvs)/\k=!kvs.isEmpty:=e
    rcases e' with⟨xs,hx,e'⟩|⟨xs,hx,e'⟩|⟨kvs,hx,e'⟩
    . subst e'
      obtain⟨its,r,pl,hz⟩:=I.list hx
      have hlen:=r.length
      exact wpAny_truthy_list pl.isList (by simp only[List.size_toArray];omega) ⟨H,I.tok _,by rw[Ft r];exact q⟩
    . subst e'
      obtain⟨its,r,pl,hz⟩:=I.tuple hx
      have hlen:=r.length
      exact truthy_tuple pl (by simp only[List.size_toArray];omega) ⟨H,I.tok _,by rw[Ft r];exact q⟩
    . subst e'
      obtain⟨hz,hS,vs,r,m⟩:kvs.length <= sizeLine/\(p == sysModules)=false/\∃ vs,KV kvs vs/\s.heap.DictOf (B8 X.prog X.w) p vs:=I.hok p _ hx
      have hlen:kvs.length=vs.length:=Paired.length r
      exact wpAny_truthy_dict hS m (by omega) ⟨H,I.tok _,by rw[Ja r];exact q⟩
  | _=>exact(show False from e).elim
theorem LV(ha:PE X a ta)(he:∀ whole,isTrue a X.env whole=(do let v <- whole;standAt a.pos;holding [v] (truthy v))) :
    PT X a (λ σ H Q=>ta σ H λ x H'=>∃ k,IK X.K x H' k/\Q k H'):=by
  intro pins s σ H Q I h
  exact isTrue_plain (thn (ha pins s σ H _ I h) λ v s1 ⟨x,H1,I1,r1,q1⟩=>OV pins s1 σ H1 x v Q I1 r1 q1) (he _)
theorem FX{x:V}{us:List Value}(r:Vals [x] us):∃ u,us=[u]/\RelV x u:=by
  cases r with
  | cons r1 r2=>cases r2;exact⟨_,rfl,r1⟩
theorem QU{x y:V}{us:List Value}(r:Vals [x,y] us):∃ u w',us=[u,w']/\RelV x u/\RelV y w':=by
  cases r with
  | cons r1 r2=>
    cases r2 with
    | cons r3 r4=>cases r4;exact⟨_,_,rfl,r1,r3⟩
theorem Ki(hc:X.calm=true):BR X (.builtin "min") (λ xs H Q=>∃ i j,xs=[.int i,.int j]/\Q (.int (if j < i then j else i)) H):=by
  intro pins s σ H xs us Q I r h
  obtain⟨i,j,rfl,q⟩:=h
  obtain⟨u,w',rfl,⟨t,rfl⟩,⟨t',rfl⟩⟩:=QU r
  refine min_two_ints (I.ok.hd hc) λ h' tk k=>⟨_,H,I.kept k,?_,q⟩
  by_cases hj:j < i
  . rw[if_pos hj,if_pos hj];exact⟨_,rfl⟩
  . rw[if_neg hj,if_neg hj];exact⟨_,rfl⟩
end
end L2
namespace L2
open PySem PySem.Spec PyProof.Rows
theorem GZ{h:Heap}{dx:Addr}{mA:Str->Option Value}(n:h.Ns1 dx mA):∃ od,h.get? dx=some od/\∀ name,PySem.W.lookIn name od=some (mA name):=by
  obtain⟨o,es,ep,ho,hd,hk,_,hm⟩:=n
  refine⟨o,ho,λ name=>?_⟩
  have e:=hm name
  unfold nsFind findBy at e
  rw[<- Array.find?_toList]at e
  unfold PySem.W.lookIn
  rw[hd]
  dsimp only
  split
  . rename_i y q
    rw[q]at e
    exact congrArg some e
  . rename_i q
    rw[q]at e
    have a:es.toList.any (·.refKey)=false:=by
      rw[List.any_eq_false]
      intro y hy
      obtain⟨z,t,hkey⟩:=hk y (Array.mem_toList_iff.mp hy)
      simp[DictEntry.refKey,hkey]
    have a':¬ es.toList.any (·.refKey)=true:=by rw[a];exact Bool.false_ne_true
    rw[if_neg a']
    exact congrArg some e
section
variable{prog:Program}{w:World}{A:Around}{E:Value->Shared->Prop}{s:Shared}{K:PySem.W.Frag}{x dx C f:Addr}{mA:Str->Option Value}{name:Str}{v:Value}
end
theorem RelO.some_of{v:V}{o:Option Value}(r:RelO (some v) o):∃ u,o=some u/\RelV v u:=by
  cases o with
  | none=>exact(show False from r).elim
  | some u=>exact⟨u,rfl,r⟩
theorem KQ{v:V}{u:Value}(r:RelV v u):PySem.W.handedIn u=true:=by
  cases v with
  | non=>cases(show u=Value.none from r);rfl
  | bl b=>cases(show u=Value.bool b from r);rfl
  | int i=>obtain⟨t,e⟩:=(show ∃ t,u=Value.int i t from r);cases e;rfl
  | str x=>obtain⟨t,e⟩:=(show ∃ t,u=Value.str x t from r);cases e;rfl
  | byt b=>obtain⟨t,e⟩:=(show ∃ t,u=Value.bytes b t from r);cases e;rfl
  | flt b=>obtain⟨t,e⟩:=(show ∃ t,u=Value.float b t from r);cases e;rfl
  | ref a=>cases(show u=Value.ref a from r);rfl
  | ty n=>cases(show u=Value.type n from r);rfl
section
variable{P:Program}{w:World}{H H':Hp}{h h':Heap}{a C dx:Addr}{fs fs':List (Str × V)}
end
noncomputable def Cq(K:PySem.W.Frag)(C:Addr)(f:Str):Prop:=PySem.W.findIn K (.ref C) f=some none
section
variable{X:Cx}{pins:List (Addr × Obj)}{σ:St}{H:Hp}{s:Shared}{a C dx:Addr}{fs:List (Str × V)}{f:Str}{v:V}{A:Around}{E:Value->Shared->Prop}
theorem ON{prog:Program}{w:World}{env:Env}{e:Expr}{f:Str}{pos:Pos}{s:Shared}{Q:Value->Shared->Prop}(hb:attributeBase e f env (eval e env)=eval e env)
    (h:wpAny (model prog w) A (eval e env) (λ o s₁=>wpAny (model prog w) A (getAttr o f true) Q E s₁) E s):wpAny (model prog w) A (eval (.Attribute e f pos) env) Q E s:=
  Attribute_any_ h (by rw[arm_eval_Attribute,hb])
end
section
variable{X:Cx}{o e value:Expr}{f:Str}{pos pos' tpos:Pos}{ta tv:TE}
end
section
variable{X:Cx}{pins:List (Addr × Obj)}{σ:St}{H:Hp}{s:Shared}{A:Around}{E:Value->Shared->Prop}{Q:Value->Shared->Prop}{c:Value}{b:Bool}
end
end L2
namespace L2
open PySem PySem.Spec PyProof.Rows
structure Room(k:Nat)(A:Around):Prop where
  hd:A.handled=none
  dp:A.depth + 3 * k + 5 < recursionLimit
  un:A.units + 16 * k + 200 < cLine
  gd:A.guards=some []
theorem Room.mono{j k:Nat}{A:Around}(r:Room k A)(h:j <= k):Room j A:=⟨r.hd,by have:=r.dp;omega,by have:=r.un;omega,r.gd⟩
theorem Room.deeper{k:Nat}{A:Around}(r:Room (k + 1) A)(env:Env):Room k (A.deeper env):=
  ⟨r.hd,by have:=r.dp;show A.depth + 1 + 3 * k + 5 < _;omega,by have:=r.un;show A.units + 3 + 16 * k + 200 < _;omega,by first|exact r.gd|(simpa [Around.deeper,Around.under,Code.guards,Code.isGuard,pushGuards]using r.gd)⟩
theorem JY{A:Around}{C:Addr}{us:List Value}{kw:List (Str × Value)}:(A.under (.builtin "type.__call__" ⟨.ref C :: us,kw⟩)).depth=A.depth + 1:=by
  first|rfl|simp[Around.under,Code.weight,Code.isCreation,Code.isGuard,Code.isCaller,Code.frames,Code.isFrame,guardIds]
theorem JX{A:Around}{C:Addr}{us:List Value}{kw:List (Str × Value)}:(A.under (.builtin "type.__call__" ⟨.ref C :: us,kw⟩)).units=A.units + 1:=by
  first|rfl|simp[Around.under,Code.cUnits,Code.frames,Code.isFrame]
theorem Room.make{k:Nat}{A:Around}(r:Room (k + 1) A)(C:Addr)(us:List Value)(kw:List (Str × Value)):Room k (A.under (.builtin "type.__call__" ⟨.ref C :: us,kw⟩)):=
  ⟨r.hd,by have:=r.dp;rw[JY];omega,by have:=r.un;rw[JX];omega,by first|exact r.gd|(simpa [Around.under,Code.guards,Code.isGuard,guardIds,pushGuards]using r.gd)⟩
theorem Room.depth{k:Nat}{A:Around}(r:Room k A):A.depth < recursionLimit:=by have:=r.dp;omega
theorem Room.units{k:Nat}{A:Around}(r:Room k A):A.units + 64 < cLine:=by have:=r.un;omega
noncomputable def DM:TA:=λ _ H Q=>Q [] H
noncomputable def CN(ta:TE)(tr:TA):TA:=λ σ H Q=>ta σ H λ x H1=>tr σ H1 λ xs H2=>Q (x :: xs) H2
section
variable{X:Cx}{e:Expr}{es:List Expr}{te:TE}{t:TA}{pos:Pos}
theorem C8:PA X [] DM:=λ _ _ _ _ H Q I h=>Calls.spliced_nil ⟨[],H,I,.nil,h⟩
theorem Ao(ha:PE X e te)(hr:PA X es t)(hs:starEach (e :: es) X.env=(false,eval e X.env) :: starEach es X.env:=by rfl):PA X (e :: es) (CN te t):=by
  intro pos pins s σ H Q I h
  rw[hs]
  show wpAny _ _ (spliced ((false,eval e X.env) :: backTo pos (starEach es X.env))) _ _ s
  refine Calls.spliced_cons (thn (ha pins s σ H _ I h) λ u s1 ⟨x,H1,I1,r1,q1⟩=>?_)
  exact thn (hr pos pins s1 σ H1 _ I1 q1) λ us s2 ⟨xs,H2,I2,r2,q2⟩=>⟨x :: xs,H2,I2,.cons r1 r2,q2⟩
noncomputable def Kn(t:TA):TE:=λ σ H Q=>t σ H λ xs H1=>xs.length <= sizeLine/\∀ p,H1 p=none->Q (.ref p) (upd H1 p (.tup xs))
noncomputable def Kr(t:TA):TE:=λ σ H Q=>t σ H λ xs H1=>xs.length <= sizeLine/\∀ p,H1 p=none->Q (.ref p) (upd H1 p (.lst xs))
theorem Hl{x1}(h:PA X es t):PE X (.Tuple es x1 pos) (Kn t):=by
  intro pins s σ H Q I hq
  refine wpAny_Tuple_spliced (thn (h pos pins s σ H _ I hq) λ us s1 ⟨xs,H1,I1,r,z,q⟩=>⟨by rw[<- r.length];exact z,?_⟩)
  have hf:H1 s1.heap.objs.size=none:=I1.hok.fresh (Nat.le_refl _)
  refine⟨.ref s1.heap.objs.size,upd H1 s1.heap.objs.size (.tup xs),I1.laid (t':=s1.toks) (λ b u e=>Heap.get?_push_of_some _ e) (Nat.le_refl _) ?_,rfl,q _ hf⟩
  exact⟨z,us,r,⟨_,Heap.get?_push_size _ rfl,rfl,⟨_,rfl⟩,rfl⟩⟩
theorem PU(h:PA X es t):PE X (.List es pos) (Kr t):=by
  intro pins s σ H Q I hq
  refine wpAny_List_spliced (thn (h pos pins s σ H _ I hq) λ us s1 ⟨xs,H1,I1,r,z,q⟩=>⟨by rw[<- r.length];exact z,?_⟩)
  have hf:H1 s1.heap.objs.size=none:=I1.hok.fresh (Nat.le_refl _)
  refine⟨.ref s1.heap.objs.size,upd H1 s1.heap.objs.size (.lst xs),I1.laid (t':=s1.toks) (λ b u e=>Heap.get?_push_of_some _ e) (Nat.le_refl _) ?_,rfl,q _ hf⟩
  exact⟨z,us,0,r,Heap.get?_push_size _ rfl⟩
end
noncomputable abbrev Sp:=List V->Hp->VK->XK->Prop
noncomputable abbrev CXT:=List Env->Hp->Shared->XK->Value->Shared->Prop
structure Env0(P:Program)(w:World)(K:PySem.W.Frag)(mg:Str->Option Value)(base:Heap)(A:Around)(outer:List Env)(s:Shared)(H:Hp):Prop where
  frames:A.frames=some outer
  mod:Mod K mg base
  bs:∀ b o,base.get? b=some o->s.heap.get? b=some o/\H b=none
  bsz:base.objs.size <= s.heap.objs.size
  funs:s.heap.FunFrames base outer
  frf:∀ b ∈ frs outer,H b=none
  hok:HOk P w H s.heap
  bare:AllBare s.gens
noncomputable def CE(outer:List Env)(P:Program)(w:World)(H:Hp)(s:Shared)(Q:VK)(u:Value)(s':Shared):Prop:=
  ∃ v H',s'.os=s.os/\AllBare s'.gens/\Un (frs outer) [] H H' s.heap s'.heap/\HOk P w H' s'.heap/\RelV v u/\Q v H'
noncomputable def CR(CX:CXT)(outer:List Env)(P:Program)(w:World)(H:Hp)(s:Shared)(Q:VK)(E:XK)(r:Result)(s':Shared):Prop:=
  match r with
  | .ok (.ret u)=>CE outer P w H s Q u s'
  | .ok _=>False
  | .error e=>CX outer H s E e s'
structure FnOk(P:Program)(w:World)(K:PySem.W.Frag)(mg:Str->Option Value)(base:Heap)(CX:CXT)(k:Nat)(f:Addr)(fd:FuncData)(ps:List Str)(sp:Sp):Prop where
  len:∀ vs H Q E,sp vs H Q E->vs.length=ps.length
  run:∀ (A:Around) (outer:List Env) (s:Shared) (H:Hp) (args:Args) (us:List Value) (vs:List V) (Q:VK) (E:XK),Room k A->Env0 P w K mg base A outer s H->BindsTo s fd args (ps.zip us)->Vals vs us->sp vs H Q E ->
    codeAny (model P w) A (.call (.ref f) args) (CR CX outer P w H s Q E) s
theorem FnOk.mono{P:Program}{w:World}{K:PySem.W.Frag}{mg:Str->Option Value}{base:Heap}{CX:CXT}{j k:Nat}{f:Addr}{fd:FuncData}{ps:List Str}{sp:Sp}(F:FnOk P w K mg base CX j f fd ps sp)(h:j <= k) :
    FnOk P w K mg base CX k f fd ps sp:=⟨F.len,λ A outer s H args us vs Q E hr=>F.run A outer s H args us vs Q E (hr.mono h)⟩
theorem Env0.make{P:Program}{w:World}{K:PySem.W.Frag}{mg:Str->Option Value}{base:Heap}{A:Around}{outer:List Env}{s:Shared}{H:Hp}(e:Env0 P w K mg base A outer s H)(C:Addr)(us:List Value)(kw:List (Str × Value)) :
    Env0 P w K mg base (A.under (.builtin "type.__call__" ⟨.ref C :: us,kw⟩)) outer s H:=⟨by first|exact e.frames|(simpa [Around.under,Code.envs,Code.isFrame,pushEnvs]using e.frames),e.mod,e.bs,e.bsz,e.funs,e.frf,e.hok,e.bare⟩
section
variable{X:Cx}{pins:List (Addr × Obj)}{σ:St}{H:Hp}{s s':Shared}
theorem Inv.env0(I:Inv X pins σ H s):Env0 X.prog X.w X.K X.mg X.base X.A X.stack s H:=
  ⟨I.ok.frames,I.ok.mod,I.bs,Nat.le_trans I.ok.bsz I.sz,I.stack,I.stkFree,I.hok,I.bare⟩
theorem Inv.after{Q:VK}{u:Value}(I:Inv X pins σ H s)(h:CE X.stack X.prog X.w H s Q u s'):EP X pins σ Q u s':=by
  obtain⟨v,H',os,bare,un,hok,r,q⟩:=h
  obtain⟨hh,g,d,t,os'⟩:=s'
  obtain rfl:os'=s.os:=os
  exact⟨v,H',I.call (h':=hh) (g':=g) (d':=d) (t':=t) (ch:=[]) un hok bare (λ b z=>absurd z (by simp)),r,q⟩
end
noncomputable def DY(sp:Sp)(dvs:List V)(E:XK)(t:TA):TE:=λ σ H Q=>t σ H λ vs H1=>sp (vs ++ dvs) H1 Q E
noncomputable def Binds(K:PySem.W.Frag)(fd:FuncData)(ps:List Str)(ds:List Value):Prop:=
  ∀ (s:Shared) (us:List Value),K.In s.heap->(us ++ ds).length=ps.length->BindsTo s fd ⟨us,[]⟩ (ps.zip (us ++ ds))
theorem Binds.all{K:PySem.W.Frag}{fd:FuncData}{ps:List Str}(h:∀ us:List Value,us.length=ps.length->bindArgs fd ⟨us,[]⟩=pure (ps.zip us)):Binds K fd ps []:=λ s us _ hl=>by
  rw[List.append_nil]at hl ⊢
  exact .of_eq (h us hl)
noncomputable def IM(CX:CXT)(X:Cx)(E:XK):Prop:=∀ (pins:List (Addr × Obj)) (σ:St) (H:Hp) (s:Shared) (e:Value) (s':Shared),Inv X pins σ H s->CX X.stack H s E e s'->X.xe e s'
section
variable{X:Cx}{CX:CXT}{k:Nat}{f C:Addr}{fd:FuncData}{ps:List Str}{sp:Sp}{dvs:List V}{ds:List Value}{E:XK}{x m:Str}{p pos apos:Pos}{e o:Expr}{es:List Expr}{ta:TE}{t:TA}
theorem OY{pins:List (Addr × Obj)}{σ:St}{H:Hp}{s:Shared}{Q:VK}{us:List Value}{vs:List V}(F:FnOk X.prog X.w X.K X.mg X.base CX k f fd ps sp)(hr:Room k X.A)(hb:Binds X.K fd ps ds)(hd:Vals dvs ds)(hx:IM CX X E)
    (I:Inv X pins σ H s) (r:Vals vs us) (h:sp (vs ++ dvs) H Q E):wpAny (model X.prog X.w) X.A (call (.ref f) us) (EP X pins σ Q) X.xe s:=by
  have r2:Vals (vs ++ dvs) (us ++ ds):=r.append hd
  have hl:(us ++ ds).length=ps.length:=by rw[<- r2.length];exact F.len _ _ _ _ h
  refine wpAny_call (codeAny_mono (F.run X.A X.stack s H ⟨us,[]⟩ (us ++ ds) (vs ++ dvs) Q E hr I.env0 (hb s us I.kIn hl) r2 h) λ r s' hq=>?_)
  cases r with
  | error e=>exact hx pins σ H s e s' I hq
  | ok fl=>
    cases fl with
    | ret u=>exact I.after hq
    | next=>exact False.elim hq
    | brk=>exact False.elim hq
    | cont=>exact False.elim hq
theorem Nq(F:FnOk X.prog X.w X.K X.mg X.base CX k f fd ps sp)(hr:Room k X.A)(hg:Gl X x)(hm:X.mg x=some (.ref f))(hk:PySem.W.keepIn X.K (.ref f)=true)(hb:Binds X.K fd ps ds)(hd:Vals dvs ds)(hx:IM CX X E)
    (ha:PA X (e :: es) t) (hdb:(x == ("__debug__":Str))=false:=by decide) (he:starEach (e :: es) X.env=(false,eval e X.env) :: starEach es X.env:=by rfl) (hpl:(backTo pos (starEach es X.env)).any (·.1)=false:=by rfl) :
    PE X (.Call (.Name x p) (e :: es) [] pos) (DY sp dvs E t):=by
  intro pins s σ H Q I h
  refine wpAny_Call_Name_kw (Dx I hg hm ?_ hdb)
  refine PySem.W.callWith_K (h₀:=X.base) I.ok.mod.kin hk (thn (ha pos pins s σ H _ I h) λ us s1 ⟨vs,H1,I1,r,q⟩=>⟨I1.kIn,?_⟩) he hpl
  exact OY F hr hb hd hx I1 r q
end
section
variable{X:Cx}{CX:CXT}{k:Nat}{f C:Addr}{fd:FuncData}{ps ks:List Str}{sp:Sp}{E:XK}{x m:Str}{p pos apos kpos:Pos}{e o:Expr}{es:List Expr}{kws:List Keyword}{te ta:TE}{t tk:TA}{nm:Option Str}
variable{g:List Value->List Value->List Value}{gV:List V->List V->List V}
end
structure FnScope(N P:List Str)(sc:Scope):Prop where
  kind:sc.kind=.function
  co:sc.isCoroutine=false
  gen:sc.isGenerator=false
  nd:N.Nodup
  pre:N.take P.length=P
  par:∀ x ∈ P,sc.names.lookup x=some .local ∨ sc.names.lookup x=some .cell
  nofree:∀ y ∈ sc.names,y.2 ≠ .free
theorem Gg{kindOf:Str->Option NameKind}{x:Str}:∀ {binds:List (Str × Value)} {m:Str->Option Value},(∀ v,(x,v) ∉ binds)->bindL kindOf binds m x=m x
  | [],_,_=>rfl
  | (n,v) :: r,m,h=>by
    unfold bindL
    rw[Gg λ w hw=>h w (List.mem_cons_of_mem _ hw)]
    split
    . have:x ≠ n:=by rintro rfl;exact h v List.mem_cons_self
      simp[this]
    . rfl
theorem Gi{kindOf:Str->Option NameKind}{x:Str}:∀ {binds:List (Str × Value)} {m:Str->Option Value},(∀ v,(x,v) ∉ binds)->bindC kindOf binds m x=m x
  | [],_,_=>rfl
  | (n,v) :: r,m,h=>by
    unfold bindC
    rw[Gi λ w hw=>h w (List.mem_cons_of_mem _ hw)]
    split
    . rfl
    . have:x ≠ n:=by rintro rfl;exact h v List.mem_cons_self
      simp[this]
theorem Gh{kindOf:Str->Option NameKind}{x:Str}{v:Value}:∀ {P:List Str} {vs:List Value} {i:Nat} {m:Str->Option Value},P.Nodup->P[i]? = some x->vs[i]? = some v->kindOf x=some .local ->
    bindL kindOf (P.zip vs) m x=some v
  | [],_,_,_,_,h,_,_=>by simp at h
  | _ :: _,[],_,_,_,_,h,_=>by simp at h
  | p :: P,w :: vs,0,m,nd,h1,h2,hk=>by
    simp at h1 h2;subst h1;subst h2
    show bindL kindOf ((p,w) :: P.zip vs) m p=_
    unfold bindL
    rw[Gg λ v hv=>(List.nodup_cons.mp nd).1 (List.of_mem_zip hv).1,if_pos hk]
    simp
  | p :: P,w :: vs,i + 1,m,nd,h1,h2,hk=>by
    show bindL kindOf ((p,w) :: P.zip vs) m x=_
    unfold bindL
    exact Gh (i:=i) (List.nodup_cons.mp nd).2 (by simpa using h1) (by simpa using h2) hk
theorem Gj{kindOf:Str->Option NameKind}{x:Str}{v:Value}:∀ {P:List Str} {vs:List Value} {i:Nat} {m:Str->Option Value},P.Nodup->P[i]? = some x->vs[i]? = some v->kindOf x ≠ some .local ->
    bindC kindOf (P.zip vs) m x=some v
  | [],_,_,_,_,h,_,_=>by simp at h
  | _ :: _,[],_,_,_,_,h,_=>by simp at h
  | p :: P,w :: vs,0,m,nd,h1,h2,hk=>by
    simp at h1 h2;subst h1;subst h2
    show bindC kindOf ((p,w) :: P.zip vs) m p=_
    unfold bindC
    rw[Gi λ v hv=>(List.nodup_cons.mp nd).1 (List.of_mem_zip hv).1,if_neg hk]
    simp
  | p :: P,w :: vs,i + 1,m,nd,h1,h2,hk=>by
    show bindC kindOf ((p,w) :: P.zip vs) m x=_
    unfold bindC
    exact Gj (i:=i) (List.nodup_cons.mp nd).2 (by simpa using h1) (by simpa using h2) hk
noncomputable def CD(N:List Str)(vs:List V):St:=vs.map some ++ List.replicate (N.length - vs.length) none
noncomputable def DT(CX:CXT)(P:Program)(w:World)(K:PySem.W.Frag)(mg:Str->Option Value)(base:Heap)(N:List Str)(qual:Str)(scope:Scope)(f:Addr)(cd:Value)(A:Around)(outer:List Env)(s:Shared)(H:Hp)(E:XK):Cx where
  prog:=P
  w:=w
  K:=K
  mg:=mg
  base:=base
  A:=A.deeper (envOfC qual scope s.heap.objs.size f cd)
  N:=N
  s₀:=s
  H₀:=H
  env:=envOfC qual scope s.heap.objs.size f cd
  outer:=outer
  stack:=envOfC qual scope s.heap.objs.size f cd :: outer
  ex:=[]
  calm:=true
  fn:=λ _=>true
  pn:=[]
  xe:=λ e s'=>wpAny (model P w) (A.deeper (envOfC qual scope s.heap.objs.size f cd)) (leaving (envOfC qual scope s.heap.objs.size f cd) e) (λ _ s''=>CX outer H s E e s'') (λ e' s''=>CX outer H s E e' s'') s'
theorem IE{sc:Scope}{n:Nat}{x:Str}(h:sc.names.lookup x=some .cell):∃ c,(cellsFrom n sc.names []).lookup x=some c:=by
  have q:=PySem.W.cellsFrom_some sc.names n [] (.inl h)
  exact Option.isSome_iff_exists.mp q
theorem KO{CX:CXT}{P:Program}{w:World}{K:PySem.W.Frag}{mg:Str->Option Value}{base:Heap}{N ps:List Str}{qual:Str}{scope:Scope}{f:Addr}{cd:Value}{A:Around}{outer:List Env}{s s1:Shared}{H:Hp}{E:XK}{us:List Value}{vs:List V}
    (S:FnScope N ps scope) (hd:A.handled=none) (e0:Env0 P w K mg base A outer s H) (hl:vs.length=ps.length) (r:Vals vs us)
    (x:InCallC s s.heap.objs.size (bindL (envOfC qual scope s.heap.objs.size f cd).kindOf (ps.zip us) λ _=>none) (cellsFrom (s.heap.objs.size + 1) scope.names []) (bindC (envOfC qual scope s.heap.objs.size f cd).kindOf (ps.zip us) λ _=>none) s1) :
    Inv (DT CX P w K mg base N qual scope f cd A outer s H E) [] (CD N vs) H s1:=by
  have hpl:ps.length <= N.length:=by have:=congrArg List.length S.pre;rw[List.length_take]at this;omega
  obtain⟨h1,tk,rfl,hk⟩:=x.done
  have noA:∀ b:Addr,b ∉ (DT CX P w K mg base N qual scope f cd A outer s H E).ex:=λ b z=>absurd (show b ∈ ([]:List Addr)from z) (by simp)
  refine⟨⟨e0.mod,S.kind,rfl,rfl,Nat.le_refl _,λ y z c h1 h2=>?_,λ y hy=>?_,λ y c _ h=>?_,λ _=>hd,Around.frames_deeper e0.frames,.inr ⟨rfl,rfl⟩,λ b z=>absurd z (noA b),e0.bs,e0.bsz,λ b _ _=>noA b,λ b z=>absurd z (noA b),e0.funs,e0.frf⟩,
    rfl,e0.bare,Un.kept hk,⟨_,x.toInCall.ns,λ i y v h1 h2 h3=>?_⟩,λ y c h=>⟨_,x.cell y c h⟩,e0.hok.fresh (Nat.le_refl _),λ y c h=>?_,λ p hp=>absurd (show p ∈ ([]:List (Addr × Obj))from hp) (by simp),e0.hok.kept hk,?_⟩
  . exact name_of_addr x.apart (PySem.mem_of_lookup h1) (PySem.mem_of_lookup h2)
  . have hy:scope.names.lookup y=some .cell ∨ scope.names.lookup y=some .free:=hy
    rcases hy with hy|hy
    . exact IE hy
    . exact absurd rfl (S.nofree _ (PySem.mem_of_lookup hy))
  . exact Nat.le_of_lt (x.above y c (PySem.mem_of_lookup h))
  . have hi:i < vs.length:=by
      unfold CD at h2
      by_cases hi:i < vs.length
      . exact hi
      . rw[List.getElem?_append_right (by simpa using hi)]at h2
        rw[List.getElem?_replicate]at h2
        split at h2 <;> cases h2
    have ha:vs[i]? = some v:=by
      unfold CD at h2
      rw[List.getElem?_append_left (by simpa using hi),List.getElem?_map]at h2
      cases e:vs[i]? with
      | none=>rw[e]at h2;cases h2
      | some a=>rw[e]at h2;cases h2;rfl
    obtain⟨u,hu,rv⟩:=r.get ha
    have hp:ps[i]? = some y:=by
      rw[<- S.pre,List.getElem?_take_of_lt (by omega)];exact h1
    have ndP:ps.Nodup:=by rw[<- S.pre];exact S.nd.sublist (List.take_sublist _ _)
    refine⟨u,rv,?_⟩
    rcases S.par y (List.mem_of_getElem? hp)with k|k
    . exact .inl ⟨k,Gh ndP hp hu k⟩
    . obtain⟨c,e⟩:=IE (n:=s.heap.objs.size + 1) k
      refine .inr ⟨.inl k,c,e,?_⟩
      have q:=x.cell y c e
      rw[Gj ndP hp hu (by show scope.names.lookup y ≠ _;rw[k];decide)]at q
      exact q
  . exact e0.hok.fresh (Nat.le_of_lt (x.above y c (PySem.mem_of_lookup h)))
  . unfold CD
    show _=N.length
    rw[List.length_append,List.length_map,List.length_replicate]
    omega
theorem Mb{CX:CXT}{P:Program}{w:World}{K:PySem.W.Frag}{mg:Str->Option Value}{base:Heap}{k:Nat}{f:Addr}{name qual:Str}{params:Arguments}{body:List Stmt}{scope:Scope}{dV kV doc pm cdv ct oc:Value}{an od:Option Addr}
    {osl:Array (Option Value)} {N ps:List Str} {sp:Sp} (lk:K.lookup f=some ⟨oc,od,.func (PySem.W.fnOf name qual params body scope dV kV doc pm an cdv ct),osl⟩) (hcd:PySem.W.codeIn K cdv qual=true) (S:FnScope N ps scope)
    (len:∀ vs H Q E,sp vs H Q E->vs.length=ps.length)
    (hbody:∀ (A:Around) (outer:List Env) (s:Shared) (H:Hp) (vs:List V) (Q:VK) (E:XK),Room k (A.deeper (envOfC qual scope s.heap.objs.size f cdv))->sp vs H Q E ->
      ∃ t,PSs (DT CX P w K mg base N qual scope f cdv A outer s H E) body t/\t { nx:=λ _ H'=>Q .non H',rt:=Q } (CD N vs) H) :
    FnOk P w K mg base CX (k + 1) f (PySem.W.fnOf name qual params body scope dV kV doc pm an cdv ct) ps sp:=by
  refine⟨len,λ A outer s H args us vs Q E hr e0 hb r hsp=>?_⟩
  have hl:=len _ _ _ _ hsp
  have KX:K.In s.heap:=e0.mod.kin.keeps λ b o e=>(e0.bs b o e).1
  have lim:s.heap.NoLimit:=e0.mod.nolimit.keeps λ b o e=>(e0.bs b o e).1
  have hkind:∀ y ∈ ps.zip us,scope.names.lookup y.1=some .local ∨ (scope.names.lookup y.1=some .cell/\((cellsFrom (s.heap.objs.size + 1) scope.names []).lookup y.1).isSome=true):=λ⟨n,v⟩ hy=>by
    rcases S.par n (List.of_mem_zip hy).1 with q|q
    . exact .inl q
    . exact .inr ⟨q,PySem.W.cellsFrom_some _ _ _ (.inl q)⟩
  refine codeAny_call_function hr.depth (KX _ _ lk) rfl S.co S.gen rfl (PySem.W.codeRec_of KX hcd) (hb _ _ _ _ ?_)
  refine wpAny_newFunctionEnv_cells S.kind hkind λ env he s1 x=>?_
  subst he
  refine⟨lim.keeps x.toInCall.keep,codeAny_func ?_⟩
  obtain⟨t,ht,hq⟩:=hbody A outer s H vs Q E (hr.deeper _) hsp
  have I:Inv (DT CX P w K mg base N qual scope f cdv A outer s H E) [] (CD N vs) H s1:=KO S hr.hd e0 hl r x
  refine wpAny_mono (ht [] s1 (CD N vs) H _ I hq) (λ fl s' hs=>?_) λ e s' hs=>hs
  have fin:∀ {σ':St} {H':Hp} {v:V} {u:Value},Inv (DT CX P w K mg base N qual scope f cdv A outer s H E) [] σ' H' s'->RelV v u->Q v H'->CE outer P w H s Q u s':=
    λ {σ' H' v u} J rv q=>⟨v,H',J.os,J.bare,J.base,J.hok,rv,q⟩
  cases fl with
  | ret u=>
    obtain⟨v,σ',H',J,rv,q⟩:=hs
    exact fin J rv q
  | next=>
    obtain⟨σ',H',J,q⟩:=hs
    exact fin (v:=V.non) (u:=Value.none) J rfl q
  | brk=>
    obtain⟨_,_,_,q⟩:=hs
    exact False.elim q
  | cont=>
    obtain⟨_,_,_,q⟩:=hs
    exact False.elim q
end L2
namespace L2
open PySem PySem.Spec PyProof.Rows
section
variable{X:Cx}{x:Str}{p pos:Pos}{e:Expr}{es:List Expr}{t:TA}{id T:String}{r:List V->Hp->VK->Prop}
noncomputable def tCB(r:List V->Hp->VK->Prop)(t:TA):TE:=λ σ H Q=>t σ H λ vs H1=>r vs H1 Q
theorem E8(hc:BR X (.builtin id) r)(hg:Gl X x)(hm:X.mg x=none)(hv:bootBuiltins x=some (.builtin id))(ha:PA X (e :: es) t)(hn:x ≠ "__name__":=by decide)(hdb:(x == ("__debug__":Str))=false:=by decide)
    (he:starEach (e :: es) X.env=(false,eval e X.env) :: starEach es X.env:=by rfl) (hpl:(backTo pos (starEach es X.env)).any (·.1)=false:=by rfl):PE X (.Call (.Name x p) (e :: es) [] pos) (tCB r t):=by
  intro pins s σ H Q I h
  refine wpAny_Call_Name_kw (Fs I hg hm hv ?_ hn hdb)
  exact PyProof.Rows.callWith_builtin1 (thn (ha pos pins s σ H _ I h) λ us s1 ⟨vs,H1,I1,r1,q1⟩=>hc pins s1 σ H1 vs us Q I1 r1 q1) he hpl
theorem Db(hc:BR X (.type T) r)(hg:Gl X x)(hm:X.mg x=none)(hv:bootBuiltins x=some (.type T))(ha:PA X (e :: es) t)(hn:x ≠ "__name__":=by decide)(hdb:(x == ("__debug__":Str))=false:=by decide)
    (he:starEach (e :: es) X.env=(false,eval e X.env) :: starEach es X.env:=by rfl) (hpl:(backTo pos (starEach es X.env)).any (·.1)=false:=by rfl):PE X (.Call (.Name x p) (e :: es) [] pos) (tCB r t):=by
  intro pins s σ H Q I h
  refine wpAny_Call_Name_kw (Fs I hg hm hv ?_ hn hdb)
  exact PyProof.Rows.callWith_type1 (thn (ha pos pins s σ H _ I h) λ us s1 ⟨vs,H1,I1,r1,q1⟩=>hc pins s1 σ H1 vs us Q I1 r1 q1) he hpl
end
end L2
namespace HT
open PySem PyProof.Rows
section
open PySem.SeqAt
open PySem.AutoSeq1 (wpAny_loadPart')
open PySem.MeetsSeq PySem.MeetsSeq2 PySem.MeetsSeq3
end
section
variable{prog:Program}{w:World}{A:Around}{E:Value->Shared->Prop}{s:Shared}
theorem cat_tup{t b:Addr}{vs ws:List Value}{Q:Value->Shared->Prop}(ht:IsTup s.heap t vs.toArray)(hb:IsTup s.heap b ws.toArray)(hv:vs ≠ [])
    (h1:ws=[]->Q (.ref t) s) (h2:ws ≠ []->Q (.ref s.heap.objs.size) { s with heap:=s.heap.push { cls:=.type "tuple",data:=.seq (vs ++ ws).toArray } })
    (hsz:vs.length + ws.length <= sizeLine):wpAny (model prog w) A (binaryOp .Add (.ref t) (.ref b)) Q E s:=by
  obtain⟨⟨cls,dd,data,sl⟩,ho,hc,n,hd⟩:=id ht
  obtain⟨⟨cls2,dd2,data2,sl2⟩,ho2,hc2,n2,hd2⟩:=id hb
  simp only at hc hd hc2 hd2
  subst hc hd hc2 hd2
  have e:vs.toArray ++ ws.toArray=(vs ++ ws).toArray:=by simp
  by_cases hw:ws=[]
  . exact concat_meets ⟨_,ho,rfl⟩ ⟨_,ho2,rfl⟩ noFill_tuple_add seq_tuple_add PySem.F.slot_tuple_add PySem.F.entry_tuple_add (PySem.F.args_tuple_add_2 _ _)
      (tuple_addW1 t b vs.toArray ws.toArray n n2 dd dd2 sl sl2 (by simpa using hv) (by simp[hw])) ⟨ho,ho2,h1 hw⟩
  . refine concat_meets ⟨_,ho,rfl⟩ ⟨_,ho2,rfl⟩ noFill_tuple_add seq_tuple_add PySem.F.slot_tuple_add PySem.F.entry_tuple_add (PySem.F.args_tuple_add_2 _ _)
      (tuple_addW2 t b vs.toArray ws.toArray n n2 dd dd2 sl sl2 (by simpa using hv) (by simpa using hw) (by rw[List.size_toArray,List.size_toArray];exact hsz)) ⟨ho,ho2,?_⟩
    rw[e]
    exact h2 hw
noncomputable def sIx(n d:Nat):Option Int->Nat
  | none=>d
  | some v=>if v < 0 then(v + (n:Int)).toNat else min v.toNat n
theorem OX(n d:Nat)(hd:d <= n)(o:Option Int):sIx n d o <= n:=by
  cases o with
  | none=>exact hd
  | some v=>
    show(if v < 0 then(v + (n:Int)).toNat else min v.toNat n) <= n
    by_cases hv:v < 0
    . rw[if_pos hv];omega
    . rw[if_neg hv];exact Nat.min_le_right _ _
theorem Iv(v:Int)(n d:Nat):(if v < 0 then max (v + (n:Int)) 0 else min v (n:Int))=((sIx n d (some v):Nat):Int):=by
  show(if v < 0 then max (v + (n:Int)) 0 else min v (n:Int))=(((if v < 0 then(v + (n:Int)).toNat else min v.toNat n):Nat):Int)
  by_cases hv:v < 0
  . simp only[if_pos hv];omega
  . simp only[if_neg hv];omega
theorem Jm(lo hi:Option Int)(n:Nat):Builtin.Slice.sliceAdjust lo hi 1 (n:Int)=(((sIx n 0 lo:Nat):Int),((sIx n n hi:Nat):Int)):=by
  have h1:¬ ((1:Int) < 0):=by omega
  unfold Builtin.Slice.sliceAdjust
  simp only[h1,if_false]
  refine Prod.ext ?_ ?_
  . cases lo with
    | none=>rfl
    | some v=>exact Iv v n 0
  . cases hi with
    | none=>rfl
    | some v=>exact Iv v n n
theorem JS(i j:Nat):Builtin.Slice.slicePlaces (i:Int) (j:Int) 1=j - i:=by
  unfold Builtin.Slice.slicePlaces
  have h1:(1:Int) > 0:=by omega
  simp only[h1,if_true,Int.ediv_one]
  split <;> omega
theorem Fb{v:Value}{o:Option Int}{Q:Option Int->Shared->Prop}(p:IsPart v o)(h:Q o s):wpAny (model prog w) A (Builtin.Slice.slicePartIndex v) Q E s:=by
  cases p with
  | none=>exact slicePart_none h
  | int i t=>exact slicePart_int h
theorem FM{sl:Addr}{vl vu:Value}{lo hi:Option Int}{n:Nat}{Q:Int × Int × Nat->Shared->Prop}(hs:s.heap.IsSliceOf sl vl vu .none)(pl:IsPart vl lo)(pu:IsPart vu hi)
    (h:Q (((sIx n 0 lo:Nat):Int),1,sIx n n hi - sIx n 0 lo) s):wpAny (model prog w) A (Builtin.Slice.sliceApplied (.ref sl) (pure (n:Int))) Q E s:=by
  obtain⟨os,hos,hcs,hds⟩:=id hs
  unfold Builtin.Slice.sliceApplied Builtin.Slice.sliceFields
  refine wpAny_bind (wpAny_bind (wpAny_field hos hds (x:=vl) rfl (wpAny_bind (wpAny_field hos hds (x:=vu) rfl (wpAny_bind (wpAny_field hos hds (x:=.none) rfl (wpAny_pure ?_)))))))
  refine wpAny_bind (slicePart_none ?_)
  show wpAny _ _ (if((1:Int) == 0)=true then _ else _) _ _ s
  rw[if_neg (by decide)]
  refine wpAny_bind (Fb pl (wpAny_bind (Fb pu (wpAny_bind (wpAny_pure ?_)))))
  show wpAny _ _ (match Builtin.Slice.sliceAdjust lo hi 1 (n:Int)with|(lo,hi)=>pure (lo,(1:Int),Builtin.Slice.slicePlaces lo hi 1)) _ _ s
  rw[Jm lo hi n]
  show wpAny _ _ (pure (((sIx n 0 lo:Nat):Int),(1:Int),Builtin.Slice.slicePlaces ((sIx n 0 lo:Nat):Int) ((sIx n n hi:Nat):Int) 1)) _ _ s
  rw[JS]
  exact wpAny_pure h
theorem LY(xs:Array Value)(i k:Nat):((List.range k).filterMap λ(m:Nat)=>xs[((i:Int) + (m:Int) * 1).toNat]?).toArray=((xs.toList.drop i).take k).toArray:=by
  have e:(λ(m:Nat)=>xs[((i:Int) + (m:Int) * 1).toNat]?)=λ m=>xs[i + m]? := by
    funext m
    have:((i:Int) + (m:Int) * 1).toNat=i + m:=by omega
    rw[this]
  rw[e]
  have:=pick_run xs i k
  rw[List.filterMap_map]at this
  have e2:((λ x=>xs[x]?) ∘ λ x=>i + x)=λ m=>xs[i + m]? := rfl
  rw[e2]at this
  rw[this]
theorem getItem_tuple_cut{t sl:Addr}{items:Array Value}{vl vu:Value}{lo hi:Option Int}{Q:Value->Shared->Prop}(ht:IsTup s.heap t items)(hs:s.heap.IsSliceOf sl vl vu .none)(pl:IsPart vl lo)(pu:IsPart vu hi)
    (hw:¬ (sIx items.size 0 lo=0/\sIx items.size items.size hi=items.size))
    (h:Q (.ref s.heap.objs.size) { s with heap:=s.heap.push { cls:=.type "tuple",data:=.seq ((items.toList.drop (sIx items.size 0 lo)).take (sIx items.size items.size hi - sIx items.size 0 lo)).toArray } })
    (hsz:items.size <= sizeLine):wpAny (model prog w) A (getItem (.ref t) (.ref sl)) Q E s:=by
  have htake:sizeOk (.seq ((items.toList.drop (sIx items.size 0 lo)).take (sIx items.size items.size hi - sIx items.size 0 lo)).toArray):=by
    show((items.toList.drop (sIx items.size 0 lo)).take (sIx items.size items.size hi - sIx items.size 0 lo)).toArray.size <= sizeLine
    rw[List.size_toArray,List.length_take,List.length_drop,Array.length_toList]
    omega
  have hj:sIx items.size items.size hi <= items.size:=OX _ _ (Nat.le_refl _) hi
  obtain⟨os,hos,hcs,hds⟩:=id hs
  have hTs:s.TypeIs (.ref sl) "slice":=⟨os,hos,hcs⟩
  unfold getItem
  try with_reducible refine wpAny_holding ?_
  first|refine wpAny_bind (wpAny_pure ?_)|skip
  refine wpAny_bind (wpAny_sequenceKey ht.typeIs (by decide) ?_)
  refine wpAny_bind (wpAny_callSpecial?_slot (name:=Str.ofString "__getitem__") ht.typeIs PyProof.Rows.slot_tuple_getitem
    (wpAny_call_entry PyProof.Rows.slot_tuple_getitem ht.typeIs entry_tuple_getitem ?_ (args_tuple_getitem _ _)))
  show wpAny _ _ (Builtin.Tuple.tupleItemsOf (.ref t) >>= _) _ _ s
  refine wpAny_bind (tupleItemsOf_ ht ?_)
  refine wpAny_bind (wpAny_typeOf hTs ?_)
  rw[if_pos (by decide)]
  refine wpAny_bind (FM hs pl pu ?_)
  have hno:¬ ((((sIx items.size 0 lo:Nat):Int) == 0 && (1:Int) == 1 && (sIx items.size items.size hi - sIx items.size 0 lo) == items.size)=true):=by
    intro q
    rw[Bool.and_eq_true,Bool.and_eq_true]at q
    have q1:((sIx items.size 0 lo:Nat):Int)=0:=eq_of_beq q.1.1
    have q2:sIx items.size items.size hi - sIx items.size 0 lo=items.size:=eq_of_beq q.2
    exact hw ⟨by omega,by omega⟩
  show wpAny _ _ (if(((sIx items.size 0 lo:Nat):Int) == 0 && (1:Int) == 1 && (sIx items.size items.size hi - sIx items.size 0 lo) == items.size)=true then _ else _) _ _ s
  rw[if_neg hno,LY]
  first
    | exact wpAny_bind (m:=Builtin.Tuple.tupleExact _) (wpAny_newObj_type (wpAny_pure ⟨_,rfl,wpAny_pure h⟩) htake)
    | exact wpAny_bind (m:=Builtin.Tuple.tupleExact _) (wpAny_newObj_type (wpAny_bind (wpAny_pure (wpAny_pure ⟨_,rfl,wpAny_pure h⟩))) htake)
    | exact wpAny_bind (wpAny_bind (m:=Builtin.Tuple.tupleExact _) (wpAny_newObj_type (wpAny_pure (wpAny_pure ⟨_,rfl,wpAny_pure h⟩)) htake))
    | exact wpAny_bind (wpAny_bind (m:=Builtin.Tuple.tupleExact _) (wpAny_newObj_type (wpAny_pure ⟨_,rfl,wpAny_pure h⟩) htake))
end
end HT
namespace L2
open PySem PySem.Spec PyProof.Rows
noncomputable abbrev TO:=St->Hp->(Option Int->Hp->Prop)->Prop
noncomputable def PO(X:Cx)(e:Option Expr)(t:TO):Prop:=
  ∀ (pins:List (Addr × Obj)) (s:Shared) (σ:St) (H:Hp) (Q:Option Int->Hp->Prop),Inv X pins σ H s->t σ H Q ->
    wpAny (model X.prog X.w) X.A (evalPart e X.env) (λ u s'=>∃ o H',Inv X pins σ H' s'/\IsPart u o/\Q o H') X.xe s
noncomputable def G9:TO:=λ _ H Q=>Q none H
noncomputable def JA(t:TE):TO:=λ σ H Q=>t σ H λ x H1=>∃ i,x=.int i/\Q (some i) H1
section
variable{X:Cx}{e:Expr}{te:TE}{lo hi:Option Expr}{tl th:TO}{pos p2:Pos}
theorem Nf:PO X none G9:=by
  intro pins s σ H Q I h
  rw[evalPart_none]
  exact wpAny_pure ⟨none,H,I,.none,h⟩
theorem Nd(h:PE X e te):PO X (some e) (JA te):=by
  intro pins s σ H Q I hw
  rw[evalPart_some]
  refine thn (h pins s σ H _ I hw) λ u s1 ⟨x,H1,I1,r1,q1⟩=>?_
  obtain⟨i,rfl,q⟩:=q1
  obtain⟨t,rfl⟩:=r1
  exact⟨some i,H1,I1,.int i t,q⟩
noncomputable def SlR(X:Cx)(r:V->Option Int->Option Int->Hp->VK->Prop):Prop:=
  ∀ (pins:List (Addr × Obj)) (s:Shared) (σ:St) (H:Hp) (x:V) (v vl vu:Value) (lo hi:Option Int) (sl:Addr) (Q:VK),Inv X pins σ H s->RelV x v->s.heap.IsSliceOf sl vl vu .none->IsPart vl lo->IsPart vu hi->r x lo hi H Q ->
    ∃ T id,typeLookup (.type T) "__getitem__"=pure (some (.builtin id))/\s.TypeIs v T/\wpAny (model X.prog X.w) X.A (getItem v (.ref sl)) (EP X pins σ Q) X.xe s
noncomputable def tSl(r:V->Option Int->Option Int->Hp->VK->Prop)(te:TE)(tl th:TO):TE:=λ σ H Q=>te σ H λ x H1=>tl σ H1 λ l H2=>th σ H2 λ u H3=>r x l u H3 Q
theorem Hm{r:V->Option Int->Option Int->Hp->VK->Prop}(hr:SlR X r)(he:PE X e te)(hl:PO X lo tl)(hu:PO X hi th):PE X (.Subscript e (.Slice lo hi none p2) pos) (tSl r te tl th):=by
  intro pins s σ H Q I h
  refine Subscript_ (thn (he pins s σ H _ I h) λ v s1 ⟨x,H1,I1,r1,q1⟩=>?_)
  refine wpAny_Slice (thn (hl pins s1 σ H1 _ I1 q1) λ vl s2 ⟨l,H2,I2,pl,q2⟩=>thn (hu pins s2 σ H2 _ I2 q2) λ vu s3 ⟨u,H3,I3,pu,q3⟩=>?_)
  rw[evalPart_none]
  refine wpAny_pure ?_
  have I4:Inv X pins σ H3 { s3 with heap:=s3.heap.push { cls:=.type "slice",data:=.fields #[vl,vu,.none] } }:=I3.kept (t':=s3.toks) λ b ob q=>Heap.get?_push_of_some _ q
  obtain⟨T,id,hT,ht,hg⟩:=hr pins { s3 with heap:=s3.heap.push { cls:=.type "slice",data:=.fields #[vl,vu,.none] } } σ H3 x v vl vu l u s3.heap.objs.size Q I4 r1 (Heap.IsSliceOf.new ..) pl pu q3
  show wpAny (model X.prog X.w) X.A (subscriptTail e (.Slice lo hi none p2) v (.ref s3.heap.objs.size)) (EP X pins σ Q) X.xe { s3 with heap:=s3.heap.push { cls:=.type "slice",data:=.fields #[vl,vu,.none] } }
  exact tail_any (ops:=[.ref s3.heap.objs.size,v]) ht hT hg (by with_unfolding_all rfl)
noncomputable def Dk(xs:List V)(lo hi:Option Int):List V:=(xs.drop (HT.sIx xs.length 0 lo)).take (HT.sIx xs.length xs.length hi - HT.sIx xs.length 0 lo)
theorem FH(xs:List V)(lo hi:Option Int):(Dk xs lo hi).length <= xs.length:=by
  unfold Dk
  rw[List.length_take,List.length_drop]
  omega
noncomputable def JL(K:PySem.W.Frag):V->Option Int->Option Int->Hp->VK->Prop:=λ x lo hi H Q=>∃ a xs,x=.ref a/\SqT K H a xs /\
  ¬ (HT.sIx xs.length 0 lo=0/\HT.sIx xs.length xs.length hi=xs.length)/\∀ p,H p=none->Q (.ref p) (upd H p (.tup (Dk xs lo hi)))
theorem OW:SlR X (JL X.K):=by
  intro pins s σ H x v vl vu lo hi sl Q I rx hs pl pu h
  obtain⟨a,xs,rfl,hx,hw,q⟩:=h
  cases rx
  obtain⟨its,r,ht,hz⟩:=I.tuple hx
  have hlen:its.toArray.size=xs.length:=by rw[List.size_toArray];exact r.length.symm
  refine⟨"tuple",_,PyProof.Rows.slot_tuple_getitem.lookup,ht.typeIs,?_⟩
  refine HT.getItem_tuple_cut ht hs pl pu (by rw[hlen];exact hw) ?_ (by rw[hlen];exact hz)
  rw[hlen]
  refine⟨.ref s.heap.objs.size,_,I.laid (t':=s.toks) (o:=.tup (Dk xs lo hi)) (λ b ob q=>Heap.get?_push_of_some _ q) (Nat.le_refl _) ?_,rfl,q _ (I.hok.fresh (Nat.le_refl _))⟩
  exact⟨Nat.le_trans (FH xs lo hi) hz,_,(r.drop (HT.sIx xs.length 0 lo)).take (HT.sIx xs.length xs.length hi - HT.sIx xs.length 0 lo),IsTupD.new _ _⟩
noncomputable def JP(K:PySem.W.Frag):R2:=λ x y H Q=>∃ a b xs ys,x=.ref a/\y=.ref b/\SqT K H a xs/\SqT K H b ys/\xs ≠ []/\xs.length + ys.length <= sizeLine /\
  (ys=[]->Q (.ref a) H)/\(ys ≠ []->∀ p,H p=none->Q (.ref p) (upd H p (.tup (xs ++ ys))))
theorem Vals.nil_iff{xs:List V}{us:List Value}(r:Vals xs us):us=[] ↔ xs=[]:=by
  cases r with
  | nil=>simp
  | cons _ _=>simp
theorem Nr:OpR X (binaryOp .Add) (JP X.K):=by
  intro pins s σ H x y v u Q I rx ry h
  obtain⟨a,b,xs,ys,rfl,rfl,ha,hb,hx,hz,q1,q2⟩:=h
  cases rx
  cases ry
  obtain⟨its,r1,p1,_⟩:=I.tuple ha
  obtain⟨its2,r2,p2,_⟩:=I.tuple hb
  refine HT.cat_tup p1 p2 (λ z=>hx (r1.nil_iff.mp z)) (λ z=>⟨.ref a,H,I,rfl,q1 (r2.nil_iff.mp z)⟩) (λ z=>?_) (by rw[<- r1.length,<- r2.length];exact hz)
  refine⟨.ref s.heap.objs.size,_,I.laid (t':=s.toks) (o:=.tup (xs ++ ys)) (λ b ob q=>Heap.get?_push_of_some _ q) (Nat.le_refl _) ?_,rfl,q2 (λ w=>z (r2.nil_iff.mpr w)) _ (I.hok.fresh (Nat.le_refl _))⟩
  exact⟨by rw[List.length_append];exact hz,_,r1.append r2,IsTupD.new _ _⟩
end
end L2
namespace L2
open PySem PySem.Spec PyProof.Rows
noncomputable def ixN(n:Nat)(i:Int):Option Nat:=if 0 <= i then(if i < n then some i.toNat else none)else if -(n:Int) <= i then some (i + n).toNat else none
noncomputable def atI{α:Type}(xs:List α)(i:Int):Option α:=(ixN xs.length i).bind λ j=>xs[j]?
theorem Ip{n:Nat}{i:Int}{j:Nat}(h:ixN n i=some j):seqIndex? i n=some j/\j < n/\-(n:Int) <= i/\i < n:=by
  unfold ixN at h
  by_cases h0:0 <= i
  . rw[if_pos h0]at h
    by_cases h1:i < n
    . rw[if_pos h1]at h
      have e:i.toNat=j:=Option.some.inj h
      exact⟨by rw[seqIndex_of h0 h1,e],by omega,by omega,h1⟩
    . rw[if_neg h1]at h;cases h
  . rw[if_neg h0]at h
    by_cases h1:-(n:Int) <= i
    . rw[if_pos h1]at h
      have e:(i + n).toNat=j:=Option.some.inj h
      exact⟨by rw[seqIndex_neg (by omega) h1,e],by omega,h1,by omega⟩
    . rw[if_neg h1]at h;cases h
theorem Iy{α:Type}{xs:List α}{i:Int}{v:α}(h:atI xs i=some v):∃ j,seqIndex? i xs.length=some j/\xs[j]? = some v/\j < xs.length/\-(xs.length:Int) <= i/\i < xs.length:=by
  unfold atI at h
  cases e:ixN xs.length i with
  | none=>rw[e]at h;cases h
  | some j=>
    rw[e]at h
    obtain⟨h1,h2,h3,h4⟩:=Ip e
    exact⟨j,h1,h,h2,h3,h4⟩
theorem BA{α:Type}{xs:List α}{j:Nat}{v:α}(h:xs[j]? = some v):atI xs (j:Int)=some v:=by
  have hj:j < xs.length:=(List.getElem?_eq_some_iff.mp h).1
  have e:ixN xs.length (j:Int)=some j:=by
    unfold ixN
    rw[if_pos (by omega),if_pos (by omega)];simp
  unfold atI;rw[e];exact h
noncomputable def GT(b:Expr):Prop:=∀ o i,subscripted b false o i=operate [o,i] (getItem o i)
noncomputable def IxR(X:Cx)(r:R2):Prop:=
  ∀ (value slice:Expr) (pins:List (Addr × Obj)) (s:Shared) (σ:St) (H:Hp) (x y:V) (v u:Value) (Q:VK),Inv X pins σ H s->RelV x v->RelV y u->r x y H Q ->
    subscripted slice false v u=operate [v,u] (getItem v u)->wpAny (model X.prog X.w) X.A (subscriptTail value slice v u) (EP X pins σ Q) X.xe s
noncomputable def MtR(X:Cx)(id:String)(r:V->List V->Hp->VK->Prop):Prop:=
  ∀ (pins:List (Addr × Obj)) (s:Shared) (σ:St) (H:Hp) (x:V) (xs:List V) (v:Value) (us:List Value) (Q:VK),Inv X pins σ H s->RelV x v->Vals xs us->r x xs H Q ->
    wpAny (model X.prog X.w) X.A (call (.builtin id) (v :: us)) (EP X pins σ Q) X.xe s
section
variable{X:Cx}{a b:Expr}{ta tb:TE}{pos:Pos}
theorem IxR.or{r r':R2}(h:IxR X r)(h':IxR X r'):IxR X (λ x y H Q=>r x y H Q ∨ r' x y H Q):=by
  intro value slice pins s σ H x y v u Q I rx ry q hs
  rcases q with q|q
  . exact h value slice pins s σ H x y v u Q I rx ry q hs
  . exact h' value slice pins s σ H x y v u Q I rx ry q hs
theorem MU{r:R2}(hr:IxR X r)(ha:PE X a ta)(hb:PE X b tb)(hs:GT b):PE X (.Subscript a b pos) (tOp r ta tb):=by
  intro pins s σ H Q I h
  exact Subscript_ (QD ha hb I h λ v u s2 x y H2 I2 rx ry q=>hr a b pins s2 σ H2 x y v u Q I2 rx ry q (hs _ _))
noncomputable def LG(K:PySem.W.Frag):R2:=λ x y H Q=>∃ p xs i v,x=.ref p/\y=.int i/\SqL K H p xs/\atI xs i=some v/\Q v H
noncomputable def LF(K:PySem.W.Frag):R2:=λ x y H Q=>∃ p xs i v,x=.ref p/\y=.int i/\SqT K H p xs/\atI xs i=some v/\Q v H
theorem O9:IxR X (LG X.K):=by
  intro value slice pins s σ H x y v u Q I rx ry h hs
  obtain⟨p,xs,i,z,rfl,rfl,hq,he,q⟩:=h
  cases rx
  obtain⟨t,rfl⟩:=ry
  obtain⟨its,r,pl,hz⟩:=I.list hq
  obtain⟨j,h1,h2,h3,h4,h5⟩:=Iy he
  obtain⟨w,ew,rw'⟩:=r.get h2
  have hl:=r.length
  have hn:=Em
  have fin:EP X pins σ Q w s:=⟨z,H,I,rw',q⟩
  by_cases h0:0 <= i
  . have hj:i.toNat=j:=by
      rw[seqIndex_of h0 h5]at h1
      exact Option.some.inj h1
    exact item_listR pl.isList h0 (by omega) (by rw[hj];simpa using ew) fin hs
  . have hj:(i + (its.toArray.size:Int)).toNat=j:=by
      rw[seqIndex_neg (by omega) h4]at h1
      rw[List.size_toArray,<- hl]
      exact Option.some.inj h1
    exact subscriptTail_builtinR (x:=w) pl.isList.typeIs slot_list_getitem.lookup
      (wpAny_getItem_list_neg (Q:=λ r s'=>r=w/\EP X pins σ Q r s') pl.isList (by omega) (by rw[List.size_toArray] <;> omega) (by omega) (by rw[hj];simpa using ew) ⟨rfl,fin⟩) hs
theorem Pp:IxR X (LF X.K):=by
  intro value slice pins s σ H x y v u Q I rx ry h hs
  obtain⟨p,xs,i,z,rfl,rfl,hq,he,q⟩:=h
  cases rx
  obtain⟨t,rfl⟩:=ry
  obtain⟨its,r,pl,hz⟩:=I.tuple hq
  obtain⟨j,h1,h2,h3,h4,h5⟩:=Iy he
  obtain⟨w,ew,rw'⟩:=r.get h2
  have hl:=r.length
  have hn:=Em
  have fin:EP X pins σ Q w s:=⟨z,H,I,rw',q⟩
  exact subscriptTail_builtinR (x:=w) pl.typeIs slot_tuple_getitem.lookup
    (getItem_tuple (j:=j) (Q:=λ r s'=>r=w/\EP X pins σ Q r s') pl (by omega) (by omega) (by rw[List.size_toArray,<- hl];exact h1) (by simpa using ew) ⟨rfl,fin⟩) hs
theorem JW(its:List Value)(n j:Nat)(u:Value):Obj.mapSeq (·.setIfInBounds j u) { cls:=.type "list",data:=.seq its.toArray n }={ cls:=.type "list",data:=.seq (its.set j u).toArray n }:=by
  simp[Obj.mapSeq]
theorem Inv.lst{pins:List (Addr × Obj)}{σ:St}{H:Hp}{s:Shared}{p:Addr}{xs:List V}(I:Inv X pins σ H s)(h:H p=some (.lst xs)) :
    ∃ (its:List Value) (n:Nat),Vals xs its/\s.heap.get? p=some { cls:=.type "list",data:=.seq its.toArray n }/\xs.length <= sizeLine:=by
  obtain⟨z,its,n,r,e⟩:=I.hok p _ h
  exact⟨its,n,r,e,z⟩
theorem Inv.lstUpd{pins:List (Addr × Obj)}{σ:St}{H:Hp}{s:Shared}{p:Addr}{xs ys:List V}{its its':List Value}{n n':Nat}{f:Obj->Obj}(I:Inv X pins σ H s)(h:H p=some (.lst xs))
    (ho:s.heap.get? p=some { cls:=.type "list",data:=.seq its.toArray n }) (hf:f { cls:=.type "list",data:=.seq its.toArray n }={ cls:=.type "list",data:=.seq its'.toArray n' }) (r:Vals ys its') (hz:ys.length <= sizeLine) (t:Nat) :
    Inv X pins σ (upd H p (.lst ys)) { s with heap:=s.heap.update p f,toks:=t }:=by
  have e:(s.heap.update p f).get? p=some { cls:=.type "list",data:=.seq its'.toArray n' }:=by
    rw[Heap.get?_update_self f ho (by rw[hf] <;> rfl),hf]
  refine I.write (x:=p) (e:=p) (by rw[h];trivial) (.inl rfl) (λ b u hb q=>(Heap.get?_update_other _ _ (Ne.symm hb)).trans q) ⟨_,e⟩ ?_
  exact⟨hz,its',n',r,e⟩
noncomputable def JN:V->V->V->Hp->(Hp->Prop)->Prop:=λ o i v H Q=>∃ p xs k j,o=.ref p/\i=.int k/\H p=some (.lst xs)/\ixN xs.length k=some j/\Q (upd H p (.lst (xs.set j v)))
theorem Kw:QL X JN:=by
  intro pins s σ H o i v ov iv u Q I ro ri rv h
  obtain⟨p,xs,k,j,rfl,rfl,hp,hj,q⟩:=h
  cases ro
  obtain⟨t,rfl⟩:=ri
  obtain⟨its,n,r,ho,hz⟩:=I.lst hp
  obtain⟨h1,h2,h3,h4⟩:=Ip hj
  have hl:=r.length
  have hn:=Em
  have I':Inv X pins σ (upd H p (.lst (xs.set j v))) { s with heap:=s.heap.update p (Obj.mapSeq (·.setIfInBounds j u)) }:=
    I.lstUpd hp ho (JW its n j u) (r.set rv j) (by rw[List.length_set];exact hz) s.toks
  by_cases h0:0 <= k
  . have hk:k.toNat=j:=by
      rw[seqIndex_of h0 h4]at h1
      exact Option.some.inj h1
    exact PySem.W.ki_setAt ho h0 (by omega) (by rw[List.size_toArray,<- hl];exact h4) (by rw[hk];exact⟨_,I',q⟩)
  . have hk:(k + (its.toArray.size:Int)).toNat=j:=by
      rw[seqIndex_neg (by omega) h3]at h1
      rw[List.size_toArray,<- hl]
      exact Option.some.inj h1
    exact PySem.W.ki_setBack ho (by omega) (by rw[List.size_toArray,<- hl];exact h3) (by omega) (by rw[hk];exact⟨_,I',q⟩)
theorem HQ(lo hi:Option Int)(n:Nat):(sliceBounds lo hi none n).1=((HT.sIx n 0 lo:Nat):Int)/\(sliceBounds lo hi none n).2.1=((HT.sIx n n hi:Nat):Int)/\(sliceBounds lo hi none n).2.2=1:=by
  refine⟨?_,?_,rfl⟩
  . cases lo with
    | none=>simp[sliceBounds,HT.sIx]
    | some i=>
      simp only[sliceBounds,HT.sIx,Option.getD_none,show(1:Int) > 0 by decide,if_true]
      by_cases h:i < 0
      . simp only[h,if_true] <;> omega
      . simp only[h,if_false] <;> omega
  . cases hi with
    | none=>simp[sliceBounds,HT.sIx]
    | some i=>
      simp only[sliceBounds,HT.sIx,Option.getD_none,show(1:Int) > 0 by decide,if_true]
      by_cases h:i < 0
      . simp only[h,if_true] <;> omega
      . simp only[h,if_false] <;> omega
theorem Gk(its:List Value)(lo hi:Option Int):slicePick its.toArray lo hi none=((its.drop (HT.sIx its.length 0 lo)).take (HT.sIx its.length its.length hi - HT.sIx its.length 0 lo)).toArray:=by
  obtain⟨h1,h2,h3⟩:=HQ lo hi its.toArray.size
  unfold slicePick
  rw[h1,h2,h3]
  simp only[sliceRange_one,pick_run,List.size_toArray] <;> rfl
noncomputable def JM(K:PySem.W.Frag):V->Option Int->Option Int->Hp->VK->Prop:=λ x lo hi H Q=>∃ a xs,x=.ref a/\SqL K H a xs/\∀ p,H p=none->Q (.ref p) (upd H p (.lst (Dk xs lo hi)))
theorem Mv:SlR X (JM X.K):=by
  intro pins s σ H x v vl vu lo hi sl Q I rx hs pl pu h
  obtain⟨a,xs,rfl,hx,q⟩:=h
  cases rx
  obtain⟨its,r,ht,hz⟩:=I.list hx
  have hlen:=r.length
  refine⟨"list",_,slot_list_getitem.lookup,ht.isList.typeIs,?_⟩
  refine wpAny_getItem_list_slice ht.isList hs pl pu .none (by simp) ?_ (by rw[List.size_toArray] <;> omega)
  rw[Gk,<- hlen]
  refine⟨.ref s.heap.objs.size,_,I.laid (t':=s.toks) (o:=.lst (Dk xs lo hi)) (λ b ob q=>Heap.get?_push_of_some _ q) (Nat.le_refl _) ?_,rfl,q _ (I.hok.fresh (Nat.le_refl _))⟩
  exact⟨Nat.le_trans (FH xs lo hi) hz,_,0,(r.drop (HT.sIx xs.length 0 lo)).take (HT.sIx xs.length xs.length hi - HT.sIx xs.length 0 lo),Heap.get?_push_size _ rfl⟩
theorem IG:BR X (.builtin "len") (λ xs H Q=>∃ p ys,xs=[.ref p]/\(SqL X.K H p ys ∨ SqT X.K H p ys)/\Q (.int ys.length) H):=by
  intro pins s σ H xs us Q I r h
  obtain⟨p,ys,rfl,hq,q⟩:=h
  obtain⟨u,rfl,rx⟩:=FX r
  cases rx
  have hn:=Em
  rcases hq with hq|hq
  . obtain⟨its,r',pl,hz⟩:=I.list hq
    have hlen:=r'.length
    exact Calls.call_len_list pl.isList (by simp only[List.size_toArray] <;> omega) ⟨.int ys.length,H,I.tok _,⟨s.toks + 1,by rw[List.size_toArray,hlen]⟩,q⟩
  . obtain⟨its,r',pl,hz⟩:=I.tuple hq
    have hlen:=r'.length
    exact len_tuple pl (by simp only[List.size_toArray] <;> omega) ⟨.int ys.length,H,I.tok _,⟨s.toks + 1,by rw[List.size_toArray,hlen]⟩,q⟩
theorem IF:BR X (.type "list") (λ xs H Q=>∃ p ys,xs=[.ref p]/\(SqL X.K H p ys ∨ SqT X.K H p ys)/\∀ l,H l=none->Q (.ref l) (upd H l (.lst ys))):=by
  intro pins s σ H xs us Q I r h
  obtain⟨p,ys,rfl,hq,q⟩:=h
  obtain⟨u,rfl,rx⟩:=FX r
  cases rx
  have fin:∀ (its:List Value),Vals ys its->ys.length <= sizeLine->∀ (h':Heap) (c':Nat),(∀ b o',s.heap.get? b=some o'->h'.get? b=some o') ->
      h'.get? s.heap.objs.size=some { cls:=.type "list",dict:=none,data:=.seq its.toArray c',slots:=#[] }->EP X pins σ Q (.ref s.heap.objs.size) { s with heap:=h' }:=λ its r' hz h' c' kp e=>
    ⟨.ref s.heap.objs.size,_,I.laid (t':=s.toks) kp (Nat.le_refl _) (show ObjOk X.prog X.w _ h' _ (.lst ys)from⟨hz,its,c',r',e⟩),rfl,q _ (I.hok.fresh (Nat.le_refl _))⟩
  rcases hq with hq|hq
  . obtain⟨its,r',pl,hz⟩:=I.list hq
    have hlen:=r'.length
    obtain⟨o,ho,hc,n,hd⟩:=pl.isList
    exact call_list_seq p (.inl rfl) ho hc hd (λ h' c' kp e=>fin its r' hz h' c' kp e) (by simp only[List.size_toArray] <;> omega)
  . obtain⟨its,r',pl,hz⟩:=I.tuple hq
    have hlen:=r'.length
    obtain⟨o,ho,hc,n,hd⟩:=pl
    exact call_list_seq p (.inr rfl) ho hc hd (λ h' c' kp e=>fin its r' hz h' c' kp e) (by simp only[List.size_toArray] <;> omega)
theorem Go:BR X (.type "tuple") (λ xs H Q=>∃ p ys,xs=[.ref p]/\((SqL X.K H p ys/\∀ l,H l=none->Q (.ref l) (upd H l (.tup ys))) ∨ (SqT X.K H p ys/\Q (.ref p) H))):=by
  intro pins s σ H xs us Q I r h
  obtain⟨p,ys,rfl,h⟩:=h
  obtain⟨u,rfl,rx⟩:=FX r
  cases rx
  rcases h with⟨hq,q⟩|⟨hq,q⟩
  . obtain⟨its,r',pl,hz⟩:=I.list hq
    have hlen:=r'.length
    refine call_tuple_list pl.isList (λ h' kp=>?_) (by simp only[List.size_toArray] <;> omega)
    have I1:Inv X pins σ H { s with heap:=h' }:=I.kept (t':=s.toks) kp
    have I2:Inv X pins σ (upd H h'.objs.size (.tup ys)) { s with heap:=h'.push { cls:=.type "tuple",data:=.seq its.toArray } }:=
      I1.laid (t':=s.toks) (λ b o e=>Heap.get?_push_of_some _ e) (Nat.le_refl _) (show ObjOk X.prog X.w _ _ _ (.tup ys)from⟨hz,its,r',IsTupD.new _ _⟩)
    exact⟨.ref h'.objs.size,_,I2,rfl,q _ (I1.hok.fresh (Nat.le_refl _))⟩
  . obtain⟨its,r',pl,hz⟩:=I.tuple hq
    exact call_tuple_same pl ⟨.ref p,H,I,rfl,q⟩
noncomputable def tyV(K:PySem.W.Frag)(T:String)(x:V)(H:Hp):Prop:=match x with
  | .str _=>T="str"
  | .int _=>T="int"
  | .ref p=>(T="list"/\∃ xs,SqL K H p xs) ∨ (T="tuple"/\∃ o,K.lookup p=some o/\o.cls=.type "tuple"/\o.dict=none) ∨
      (T="dict"/\((∃ kvs,H p=some (.dK kvs)) ∨ ∃ kvs,H p=some (.dT kvs))) ∨ (T="set"/\∃ S n,H p=some (.set S n))
  | _=>False
theorem OU{pins:List (Addr × Obj)}{σ:St}{H:Hp}{s:Shared}{T:String}{x:V}{v:Value}(I:Inv X pins σ H s)(r:RelV x v)(ty:tyV X.K T x H) :
    s.TypeIs v T/\∀ a,v=.ref a->∃ ob,s.heap.get? a=some ob/\ob.dict=none:=by
  cases x with
  | str z=>
    obtain⟨t,rfl⟩:=r
    cases(show T="str" from ty)
    exact⟨typeIs_str s z t,λ _ e=>nomatch e⟩
  | int i=>
    obtain⟨t,rfl⟩:=r
    cases(show T="int" from ty)
    exact⟨typeIs_int s i t,λ _ e=>nomatch e⟩
  | ref p=>
    cases r
    rcases ty with⟨rfl,xs,hq⟩|⟨rfl,o,hk,hc,hd⟩|⟨rfl,hk⟩|⟨rfl,S,n,hk⟩
    . obtain⟨its,_,pl,_⟩:=I.list hq
      refine⟨pl.isList.typeIs,λ a e=>?_⟩
      cases e
      obtain⟨o,n,e,c,hd,_⟩:=pl
      exact⟨o,e,hd⟩
    . refine⟨⟨o,I.kIn p o hk,hc⟩,λ a e=>?_⟩
      cases e
      exact⟨o,I.kIn _ o hk,hd⟩
    . have z:∃ o,s.heap.get? p=some o/\o.ExactDict:=by
        rcases hk with⟨kvs,hk⟩|⟨kvs,hk⟩
        . obtain⟨_,_,_,_,o,_,_,e,ex,_⟩:=I.hok p _ hk
          exact⟨o,e,ex⟩
        . obtain⟨_,_,_,_,o,_,_,e,ex,_⟩:=I.hok p _ hk
          exact⟨o,e,ex⟩
      obtain⟨o,e,ex⟩:=z
      refine⟨⟨o,e,ex.1⟩,λ a e2=>?_⟩
      cases e2
      exact⟨o,e,ex.2.1⟩
    . obtain⟨o,_,_,_,e,ex,_⟩:=I.hok p _ hk
      refine⟨⟨o,e,ex.1⟩,λ a e2=>?_⟩
      cases e2
      exact⟨o,e,ex.2.1⟩
  | _=>exact False.elim ty
noncomputable def tBM(K:PySem.W.Frag)(T:String)(r:V->List V->Hp->VK->Prop)(to:TE)(t:TA):TE:=λ σ H Q=>to σ H λ x H1=>tyV K T x H1/\t σ H1 λ xs H2=>r x xs H2 Q
variable{o e:Expr}{es:List Expr}{to:TE}{t:TA}{name:Str}{apos cpos:Pos}{T id:String}{r:V->List V->Hp->VK->Prop}
theorem Qo(pa:PlainAttrs T)(slot:Slot T name id)(hty:typeOf (.builtin id)=pure (.type "method_descriptor"))(hm:MtR X id r)(ho:PE X o to)(ha:PA X (e :: es) t)
    (hbase:attributeBase o name X.env (eval o X.env)=eval o X.env:=by rfl)
    (hfew:((backTo cpos (starEach (e :: es) X.env)).all (λ x=>!x.1) && (backToKw cpos (keywordEach [] X.env)).all (λ x=>x.1.isSome)
      && decide ((e :: es).length + ([]:List Keyword).length + (if([]:List Keyword).isEmpty then 0 else 1) < 30))=true:=by rfl)
    (hline:(apos.endLine == cpos.line)=true:=by rfl) (hs:starEach (e :: es) X.env=(false,eval e X.env) :: starEach es X.env:=by rfl) (hplain:(backTo cpos (starEach es X.env)).any (·.1)=false:=by rfl) :
    PE X (.Call (.Attribute o name apos) (e :: es) [] cpos) (tBM X.K T r to t):=by
  intro pins s σ H Q I h
  refine wpAny_Call_method_late hbase hfew hline rfl (thn (ho pins s σ H _ I h) λ v s1 ⟨x,H1,I1,r1,ty,q1⟩=>?_)
  obtain⟨h1,h2⟩:=OU I1 r1 ty
  refine⟨T,id,pa,slot,hty,h1,h2,?_⟩
  have hA:=ha cpos pins s1 σ H1 _ I1 q1
  rw[hs]at hA ⊢
  refine Calls.callWith_builtin (by show(false || (backTo cpos (starEach es X.env)).any (·.1))=false;rw[hplain] <;> rfl) (Calls.evalArgs_plain ?_)
  exact thn hA λ us s2 ⟨vs,H2,I2,r2,q2⟩=>hm pins s2 σ H2 x vs v us Q I2 r1 r2 q2
end
end L2
namespace L2
open PySem PySem.Spec PyProof.Rows
noncomputable def MtM(X:Cx)(id:String)(r:V->List V->Hp->VK->Prop):Prop:=
  ∀ (pins:List (Addr × Obj)) (s:Shared) (σ:St) (H:Hp) (x:V) (xs:List V) (v:Value) (us:List Value) (Q:VK),Inv X pins σ H s->RelV x v->Vals xs us->r x xs H Q ->
    wpAny (model X.prog X.w) X.A (call (.builtin id) (v :: us)) (EP X pins σ Q) X.xe s
theorem Vals.one:∀ {x:V} {us:List Value},Vals [x] us->∃ u,us=[u]/\RelV x u
  | _,_,.cons r .nil=>⟨_,rfl,r⟩
section
variable{X:Cx}{pins:List (Addr × Obj)}{σ:St}{H:Hp}{s:Shared}{l b:Addr}{xs ys zs:List V}
theorem Inv.lset{its its':List Value}{n:Nat}{f:Array Value->Array Value}{t':Nat}(I:Inv X pins σ H s)(hH:H l=some (.lst xs))
    (e:s.heap.get? l=some { cls:=.type "list",data:=.seq its.toArray n }) (hf:f its.toArray=its'.toArray) (hv:Vals ys its') (hz:ys.length <= sizeLine) :
    Inv X pins σ (upd H l (.lst ys)) { s with heap:=s.heap.update l (Obj.mapSeq f),toks:=t' }:=by
  have q:=PySem.IsL.update e f
  rw[hf]at q
  refine I.write (x:=l) (e:=l) (by rw[hH];exact trivial) (.inl rfl) (λ b' u hb hu=>(Heap.get?_update_other s.heap (Obj.mapSeq f) (Ne.symm hb)).trans hu) ⟨_,q⟩ ?_
  exact⟨hz,its',_,hv,q⟩
theorem Inv.lnew{its:List Value}{t':Nat}(I:Inv X pins σ H s)(hv:Vals ys its)(hz:ys.length <= sizeLine) :
    Inv X pins σ (upd H s.heap.objs.size (.lst ys)) { s with heap:=s.heap.push { cls:=.type "list",data:=.seq its.toArray },toks:=t' }:=
  I.laid (λ _ _ q=>Heap.get?_push_of_some _ q) (Nat.le_refl _) ⟨hz,its,0,hv,Heap.get?_push_size _ rfl⟩
theorem Inv.fresh(I:Inv X pins σ H s):H s.heap.objs.size=none:=I.hok.fresh (Nat.le_refl _)
theorem Inv.lstM(I:Inv X pins σ H s)(hH:H l=some (.lst xs)):xs.length <= sizeLine/\∃ (its:List Value) (n:Nat),Vals xs its/\xs.length=its.length/\s.heap.get? l=some { cls:=.type "list",data:=.seq its.toArray n }:=by
  obtain⟨z,its,n,r,e⟩:=I.hok l _ hH
  exact⟨z,its,n,r,r.length,e⟩
theorem Ld{n:Nat}(h:n <= sizeLine):Builtin.List.listTooLong n=false:=by
  unfold Builtin.List.listTooLong
  exact decide_eq_false (by omega)
end
section
variable{X:Cx}
noncomputable def IZ:V->List V->Hp->VK->Prop:=λ x vs H Q=>∃ l xs y,x=.ref l/\vs=[y]/\H l=some (.lst xs)/\xs.length < sizeLine/\Q .non (upd H l (.lst (xs ++ [y])))
theorem Ed:MtM X "list.append" IZ:=by
  intro pins s σ H x vs v us Q I rx rv h
  obtain⟨l,xs,y,rfl,rfl,hH,hz,q⟩:=h
  cases rx
  obtain⟨u,rfl,ru⟩:=rv.one
  obtain⟨z,its,n,r,hl,e⟩:=I.lstM hH
  refine call_meets F.slot_list_append ⟨_,e,rfl⟩ F.entry_list_append (F.args_list_append_2 _ _) (PySem.list_append l its.toArray n u (by rw[List.size_toArray];omega)) ⟨e,?_⟩
  refine⟨.non,_,I.lset (its':=its ++ [u]) hH e (by simp) (r.append (.cons ru .nil)) ?_,rfl,q⟩
  rw[List.length_append,List.length_singleton]
  omega
noncomputable def NJ:V->List V->Hp->VK->Prop:=λ x vs H Q=>∃ l b xs zs,x=.ref l/\vs=[.ref b]/\H l=some (.lst xs)/\H b=some (.lst zs)/\xs.length + zs.length <= sizeLine/\Q .non (upd H l (.lst (xs ++ zs)))
theorem RY:MtM X "list.extend" NJ:=by
  intro pins s σ H x vs v us Q I rx rv h
  obtain⟨l,b,xs,zs,rfl,rfl,hH,hB,hz,q⟩:=h
  cases rx
  obtain⟨u,rfl,ru⟩:=rv.one
  cases ru
  obtain⟨z,its,n,r,hl,e⟩:=I.lstM hH
  obtain⟨z2,its2,n2,r2,hl2,e2⟩:=I.lstM hB
  have hsz:its.toArray.size + its2.toArray.size <= sizeLine:=by rw[List.size_toArray,List.size_toArray];omega
  have hlong:¬ (!its.toArray.isEmpty && Builtin.List.listTooLong (its.toArray.size + its2.toArray.size))=true:=by
    rw[Ld hsz,Bool.and_false]
    exact Bool.false_ne_true
  refine call_meets F.slot_list_extend ⟨_,e,rfl⟩ F.entry_list_extend (F.args_list_extend_2 _ _)
    (AutoSeq1.list_extend_list_list_0 l its.toArray n b its2.toArray n2 hlong (by rw[List.size_toArray];omega) (by omega)) ⟨e,e2,?_⟩
  refine⟨.non,_,I.lset (its':=its ++ its2) hH e (by simp) (r.append r2) ?_,rfl,q⟩
  rw[List.length_append]
  omega
noncomputable def LJ:R2:=λ x y H Q=>∃ l b xs zs,x=.ref l/\y=.ref b/\H l=some (.lst xs)/\H b=some (.lst zs)/\xs.length + zs.length <= sizeLine/\∀ p,H p=none->Q (.ref p) (upd H p (.lst (xs ++ zs)))
theorem Pc:OpR X (binaryOp .Add) LJ:=by
  intro pins s σ H x y v u Q I rx ry h
  obtain⟨l,b,xs,zs,rfl,rfl,hH,hB,hz,q⟩:=h
  cases rx
  cases ry
  obtain⟨z,its,n,r,hl,e⟩:=I.lstM hH
  obtain⟨z2,its2,n2,r2,hl2,e2⟩:=I.lstM hB
  refine PySem.P.add_list e e2 ?_ (by rw[List.size_toArray,List.size_toArray];omega)
  have ea:its.toArray ++ its2.toArray=(its ++ its2).toArray:=by simp
  rw[ea]
  exact⟨.ref _,_,I.lnew (t':=s.toks) (r.append r2) (by rw[List.length_append];omega),rfl,q _ I.fresh⟩
end
section
variable{prog:Program}{w:World}{A:Around}{E:Value->Shared->Prop}{s:Shared}
end
section
variable{X:Cx}
end
end L2
namespace Att
open PySem PySem.W PySem.Calls PyProof.Rows
theorem Fu{P:Params}{h:Heap}:∀ (ns:List Int) (vs:List Value),WellAll P h vs (ns.map WData.int)->IntsAre vs ns:=by
  intro ns
  induction ns with
  | nil=>
    intro vs w
    rw[List.map_nil]at w
    cases w
    exact .nil
  | cons n ns ih=>
    intro vs w
    rw[List.map_cons]at w
    cases w with
    | cons a b=>
      cases a
      exact .cons _ _ (ih _ b)
theorem Jz{l:OpenLaw}{n:Nat}(hn:l.most=some n){P:Params}{h:Heap}{args:List WData}{vals:List Value}
    (hpre:l.row.toRowW.claim.pre args=true) (hwl:WellAll P h vals args) :
    ∃ a vs ns,vals=[Value.ref a]/\args=[WData.list (ns.map WData.int)]/\h.get? a=some { cls:=.type "list",data:=.seq vs.toArray }/\IntsAre vs ns/\ns.length <= n:=by
  have hsh:WShape.hasAll [] args [.list .int]=true:=(pre_splitW hpre).1
  have hc:l.pre.holds [] { args:=args }=true:=(pre_splitW hpre).2
  obtain⟨d,r,rfl,h1,h2⟩:=hasAllW_cons hsh
  obtain rfl:=hasAllW_nil h2
  obtain⟨xs,rfl,h3⟩:=hasW_list h1
  obtain⟨ns,rfl⟩:=items_int h3
  have hlen:ns.length <= n:=by
    unfold OpenLaw.pre at hc
    have h4:(WTm.not (.lt (.lit (.int (n:Int))) (.len (.arg 0)))).holds [] { args:=[.list (ns.map .int)] }=true:=by
      have h4:=(holds_andW hc).1
      rw[hn]at h4
      exact h4
    have h5:=condW_of h4 (w_not (w_lt w_lit (w_len_list (w_arg rfl))))
    rw[List.length_map]at h5
    refine Nat.le_of_not_lt λ q=>?_
    have q':(n:Int) < ((ns.length:Nat):Int):=by omega
    first
      | (rw[decide_eq_true q']at h5;exact absurd h5 (by decide))
      | (simp at h5;omega)
  cases hwl with
  | cons w1 w2=>
    cases w2
    cases w1 with
    | list ho hall=>exact⟨_,_,ns,rfl,rfl,ho,Fu ns _ hall,hlen⟩
theorem K9(l:OpenLaw)(args:List WData):l.row.toRowW.claim.post args (.bool true) args=true:=
  postW_of (r:=l.row.toRowW) (X:=(true == true))
    (show WShape.has [] (.bool true) .bool=true by first|rfl|decide|simp[WShape.has,WShape.arms,WShape.armsAll])
    (show(WTm.eq .res (.lit (.bool true))).value [] { args:=args,res:=some (.bool true),after:=args }=some (.bool (true == true))from w_eq_bool (w_res rfl) w_lit) rfl
theorem attach_call{l:OpenLaw}{n:Nat}{q:Program}{loose:List Str}{XP:(Str->Option Value)->Heap->Prop}{YP:World->Heap->Prop}{d:DefRec}
    (hn:l.most=some n) (hdf:d.params.defaults=[])
    (call:∀ (w:World) (s₀ s₁:Shared) (mg mb:Str->Option Value) (fa:Addr) (o:Obj) (pm cd doc:Value) (a:Addr) (vs:List Value) (ns:List Int),
      Ground q loose [] XP w s₀ mg mb s₁.heap->YP w s₁.heap ->
      s₁.heap.get? fa=some o->o.data=.func (docDef d.name d.params d.body d.scope pm cd doc)->s₁.heap.CodeRec cd d.name->mg d.name=some (.ref fa) ->
      s₁.heap.get? a=some { cls:=.type "list",data:=.seq vs.toArray }->IntsAre vs ns->ns.length <= n->s₁.gens=#[] ->
      codeAny (model l.prog w) callerA (.call (.ref fa) ⟨[.ref a],[]⟩) (λ r s'=>r=.ok (.ret (.bool true))/\OldK s₁.heap s'.heap/\s'.os=s₁.os/\AllBare s'.gens) s₁) :
    WalkO q loose XP YP l.row.toRowW d [] (λ f vs=>PySem.call f vs):=by
  intro w s₀ s₁ mg mb G Y fa o pm cd doc dV kV ho hd hcd hD hmg hg args vals as hpre hlay hrd hwl hlo
  obtain rfl:dV=.none:=Dflts.none hD hdf
  obtain rfl:kV=.none:=Dflts.noKw hD
  obtain⟨a,vs,ns,rfl,rfl,hobj,hints,hlen⟩:=Jz hn hpre hwl
  refine enter_call (codeAny_mono (call w s₀ s₁ mg mb fa o pm cd doc a vs ns G Y ho (fd_plain hd) hcd hmg hobj hints hlen hg) λ r s' hq=>?_)
  obtain⟨rfl,h2,h3,h4⟩:=hq
  exact⟨.inl ⟨.bool true,.bool true,[],rfl,λ _=>rfl,.bool true,K9 l _,λ _=>⟨List.Pairwise.nil,λ _ hm=>(nomatch hm)⟩⟩,h2,h3,h4⟩
section
variable{prog:Program}{w:World}{A:Around}{E:Value->Shared->Prop}{s:Shared}{K:Frag}
end
end Att
namespace L2
open PySem PySem.Spec PyProof.Rows
theorem GU:∀ {vs:List Value} {ns:List Int},IntsAre vs ns->Vals (ns.map V.int) vs
  | _,_,.nil=>.nil
  | _,_,.cons n t h=>.cons ⟨t,rfl⟩ (GU h)
end L2
namespace L2
open PySem PySem.Spec PyProof.Rows
end L2
namespace L2
open PySem PySem.Spec PyProof.Rows
noncomputable def OA(s:Stmt)(j:Nat):Stmt:=match s with
  | .ClassDef _ _ _ body _ _ _ _ _ _ _=>body.getD j (.Pass ⟨0,0,0,0⟩)
  | _=>.Pass ⟨0,0,0,0⟩
noncomputable def Aq(s:Stmt):Arguments:=match s with
  | .FunctionDef _ a _ _ _ _ _ _ _ _=>a
  | _=>{ posonlyargs:=[],args:=[],vararg:=none,kwonlyargs:=[],kw_defaults:=[],kwarg:=none,defaults:=[] }
noncomputable def Af(s:Stmt):List Stmt:=match s with
  | .FunctionDef _ _ b _ _ _ _ _ _ _=>b
  | _=>[]
noncomputable def AC(s:Stmt):Scope:=match s with
  | .FunctionDef _ _ _ _ _ _ sc _ _ _=>sc
  | _=>{ kind:=.function,names:=[],isGenerator:=false,isCoroutine:=false }
noncomputable abbrev CX0:CXT:=λ _ _ _ _ _ _=>False
noncomputable abbrev E0:XK:=λ _ _ _=>False
theorem Qq{X:Cx}:IM CX0 X E0:=λ _ _ _ _ _ _ _ h=>h.elim
structure Fun(K:PySem.W.Frag)(x qual:Str)(st:Stmt)(f:Addr)(fd:FuncData):Prop where
  ex:∃ (oc:Value) (od:Option Addr) (kV doc pm:Value) (an:Option Addr) (cdv ct:Value) (osl:Array (Option Value)),
    fd=PySem.W.fnOf x qual (Aq st) (Af st) (AC st) .none kV doc pm an cdv ct/\K.lookup f=some ⟨oc,od,.func fd,osl⟩/\PySem.W.codeIn K cdv qual=true
  kp:PySem.W.keepIn K (.ref f)=true
section
variable{P:Program}{w:World}{K:PySem.W.Frag}{mg:Str->Option Value}{base:Heap}
theorem Fun.ok{x qual:Str}{st:Stmt}{f:Addr}{fd:FuncData}{N ps:List Str}{k:Nat}{sp:Sp}(F:Fun K x qual st f fd)(S:FnScope N ps (AC st))(len:∀ vs H Q E,sp vs H Q E->vs.length=ps.length)
    (hbody:∀ (cdv:Value) (A:Around) (outer:List Env) (s:Shared) (H:Hp) (vs:List V) (Q:VK) (E:XK),Room k (A.deeper (envOfC qual (AC st) s.heap.objs.size f cdv))->sp vs H Q E ->
      ∃ t,PSs (DT CX0 P w K mg base N qual (AC st) f cdv A outer s H E).nox (Af st) t/\t { nx:=λ _ H'=>Q .non H',rt:=Q } (CD N vs) H):FnOk P w K mg base CX0 (k + 1) f fd ps sp:=by
  obtain⟨oc,od,kV,doc,pm,an,cdv,ct,osl,rfl,lk,hcd⟩:=F.ex
  refine Mb lk hcd S len λ A outer s H vs Q E hr hsp=>?_
  obtain⟨t,h,q⟩:=hbody cdv A outer s H vs Q E hr hsp
  exact⟨t,h.nox,q⟩
theorem Fun.binds{x qual:Str}{st:Stmt}{f:Addr}{fd:FuncData}{ps:List Str}(F:Fun K x qual st f fd)
    (h:∀ (kV doc pm:Value) (an:Option Addr) (cdv ct:Value) (us:List Value),us.length=ps.length->bindArgs (PySem.W.fnOf x qual (Aq st) (Af st) (AC st) .none kV doc pm an cdv ct) ⟨us,[]⟩=pure (ps.zip us)):Binds K fd ps []:=by
  obtain⟨oc,od,kV,doc,pm,an,cdv,ct,osl,rfl,lk,hcd⟩:=F.ex
  exact .all (h kV doc pm an cdv ct)
theorem Ba{x qual:Str}{st:Stmt}{f:Addr}{oc:Value}{od an:Option Addr}{osl:Array (Option Value)}{kV doc pm cdv ct:Value}(l:K.lookup f=some ⟨oc,od,.func (PySem.W.fnOf x qual (Aq st) (Af st) (AC st) .none kV doc pm an cdv ct),osl⟩)
    (c:PySem.W.codeIn K cdv qual=true) (k:PySem.W.keepIn K (.ref f)=true):Fun K x qual st f (PySem.W.fnOf x qual (Aq st) (Af st) (AC st) .none kV doc pm an cdv ct):=⟨⟨oc,od,kV,doc,pm,an,cdv,ct,osl,rfl,l,c⟩,k⟩
end
theorem CU{A:Around}{k:Nat}(hr:Room k A):A.units + 1 < cLine:=Nat.lt_of_le_of_lt (Nat.add_le_add_left (by decide:1 <= 64) _) hr.units
section
variable{X:Cx}
end
theorem Ln{A B:Prop}(h:A):if true=true then A else B:=by
  rw[if_pos rfl]
  exact h
end L2
namespace L2
open PySem PySem.Spec PyProof.Rows
section
variable{κ:Type}[DecidableEq κ]
noncomputable def CW(kvs:List (κ × V))(k:κ):Option V:=(kvs.find? λ kv=>decide (kv.1=k)).map (·.2)
noncomputable def Bo(kvs:List (κ × V))(k:κ)(v:V):List (κ × V):=
  if(kvs.any λ kv=>decide (kv.1=k))=true then kvs.map (λ kv=>if kv.1=k then(kv.1,v)else kv)else kvs ++ [(k,v)]
theorem DK{p:κ × V}{r:List (κ × V)}{k:κ}(e:p.1=k):CW (p :: r) k=some p.2:=by simp[CW,List.find?_cons,e]
theorem DL{p:κ × V}{r:List (κ × V)}{k:κ}(e:¬ p.1=k):CW (p :: r) k=CW r k:=by simp[CW,List.find?_cons,e]
theorem HG(k:κ):∀ kvs:List (κ × V),(kvs.any λ kv=>decide (kv.1=k))=(CW kvs k).isSome
  | []=>rfl
  | p :: r=>by
    rw[List.any_cons]
    by_cases e:p.1=k
    . simp only[DK e,decide_eq_true e,Bool.true_or,Option.isSome_some]
    . rw[DL e,decide_eq_false e,Bool.false_or];exact HG k r
theorem Dh(kvs:List (κ × V))(k:κ)(v:V):(Bo kvs k v).length <= kvs.length + 1:=by
  unfold Bo
  split
  . rw[List.length_map];omega
  . rw[List.length_append,List.length_cons,List.length_nil];omega
theorem RelO.isSome_eq{o:Option V}{u:Option Value}(r:RelO o u):o.isSome=u.isSome:=by
  cases o with
  | none=>cases u with
    | none=>rfl
    | some _=>exact(show False from r).elim
  | some _=>cases u with
    | none=>exact(show False from r).elim
    | some _=>rfl
theorem KV.val{kvs:List (κ × V)}{vs:List (κ × Value)}(r:KV kvs vs)(k:κ):RelO (CW kvs k) (valueAt vs k):=by
  unfold KV at r
  induction r with
  | nil=>exact True.intro
  | @cons p q ps qs h t ih=>
    obtain⟨h1,h2⟩:=h
    by_cases e:p.1=k
    . have e':q.1=k:=h1.symm.trans e
      have b:valueAt (q :: qs) k=some q.2:=by simp[valueAt,List.find?_cons,e']
      rw[DK e,b];exact h2
    . have e':¬ q.1=k:=λ z=>e (h1.trans z)
      have b:valueAt (q :: qs) k=valueAt qs k:=by simp[valueAt,List.find?_cons,e']
      rw[DL e,b];exact ih
theorem KV.any{kvs:List (κ × V)}{vs:List (κ × Value)}(r:KV kvs vs)(k:κ):(kvs.any λ kv=>decide (kv.1=k))=vs.any λ kv=>decide (kv.1=k):=by
  unfold KV at r
  induction r with
  | nil=>rfl
  | cons h t ih=>rw[List.any_cons,List.any_cons,ih,h.1]
theorem KV.repl{kvs:List (κ × V)}{vs:List (κ × Value)}(r:KV kvs vs)(k:κ){y:V}{u:Value}(ry:RelV y u) :
    KV (kvs.map λ kv=>if kv.1=k then(kv.1,y)else kv) (vs.map λ kv=>if kv.1=k then(kv.1,u)else kv):=by
  unfold KV at r ⊢
  induction r with
  | nil=>exact .nil
  | @cons p q ps qs h t ih=>
    rw[List.map_cons,List.map_cons]
    refine .cons ?_ ih
    obtain⟨h1,h2⟩:=h
    by_cases e:p.1=k
    . rw[if_pos e,if_pos (h1.symm.trans e)];exact⟨h1,ry⟩
    . rw[if_neg e,if_neg (λ z=>e (h1.trans z))];exact⟨h1,h2⟩
theorem KV.put{kvs:List (κ × V)}{vs:List (κ × Value)}(r:KV kvs vs)(k:κ){y:V}{u:Value}(ry:RelV y u):KV (Bo kvs k y) (stored vs k u):=by
  unfold Bo stored
  rw[r.any k]
  by_cases e:(vs.any λ kv=>decide (kv.1=k))=true
  . rw[if_pos e,if_pos e];exact r.repl k ry
  . rw[if_neg e,if_neg e];exact Paired.snoc r ⟨rfl,ry⟩
theorem KV.length{kvs:List (κ × V)}{vs:List (κ × Value)}(r:KV kvs vs):kvs.length=vs.length:=Paired.length r
end
theorem Gy{P:Program}{w:World}{k:Key}{u:Value}(r:RelV (kV k) u):(B8 P w).is k u=true:=by
  cases k with
  | inl i=>obtain⟨t,e⟩:=(show ∃ t,u=Value.int i t from r);subst e;exact IQ P w i t
  | inr x=>obtain⟨t,e⟩:=(show ∃ t,u=Value.str x t from r);subst e;exact IP P w x t
theorem Ga{P:Program}{w:World}:∀ {ks:List Key} {us:List Value},Vals (ks.map kV) us->ItemsAre (B8 P w) ks us
  | [],_,r=>by rw[List.map_nil]at r;cases r;exact .nil
  | k :: ks,_,r=>by
    rw[List.map_cons]at r
    cases r with
    | cons h t=>exact .cons (Gy h) (Ga t)
noncomputable abbrev KT(H:Hp):List (List Key × V)->List (List Key × Addr × Value)->Prop:=Paired λ p q=>p.1=q.1/\H q.2.1=some (.tup (p.1.map kV))/\RelV p.2 q.2.2
theorem KT.val{H:Hp}{kvs:List (List Key × V)}{xs:List (List Key × Addr × Value)}(r:KT H kvs xs)(k:List Key):RelO (CW kvs k) ((atKey xs k).map (·.2)):=by
  induction r with
  | nil=>exact True.intro
  | @cons p q ps qs h t ih=>
    obtain⟨h1,_,h2⟩:=h
    by_cases e:p.1=k
    . have e':q.1=k:=h1.symm.trans e
      have b:atKey (q :: qs) k=some q.2:=by simp[atKey,List.find?_cons,e']
      rw[DK e,b];exact h2
    . have e':¬ q.1=k:=λ z=>e (h1.trans z)
      have b:atKey (q :: qs) k=atKey qs k:=by simp[atKey,List.find?_cons,e']
      rw[DL e,b];exact ih
theorem KT.repl{H:Hp}{kvs:List (List Key × V)}{xs:List (List Key × Addr × Value)}(r:KT H kvs xs)(k:List Key){y:V}{u:Value}(ry:RelV y u) :
    KT H (kvs.map λ kv=>if kv.1=k then(kv.1,y)else kv) (xs.map (putAt k u)):=by
  induction r with
  | nil=>exact .nil
  | @cons p q ps qs h t ih=>
    rw[List.map_cons,List.map_cons]
    refine .cons ?_ ih
    obtain⟨h1,h2,h3⟩:=h
    unfold putAt
    by_cases e:p.1=k
    . rw[if_pos e,if_pos (h1.symm.trans e)];exact⟨h1,h2,ry⟩
    . rw[if_neg e,if_neg (λ z=>e (h1.trans z))];exact⟨h1,h2,h3⟩
theorem KT.put{H:Hp}{kvs:List (List Key × V)}{xs:List (List Key × Addr × Value)}(r:KT H kvs xs)(k:List Key){b:Addr}{y:V}{u:Value}(hb:H b=some (.tup (k.map kV)))(ry:RelV y u) :
    KT H (Bo kvs k y) (storedH xs k b u):=by
  have e:(kvs.any λ kv=>decide (kv.1=k))=(atKey xs k).isSome:=by
    rw[HG,(r.val k).isSome_eq,Option.isSome_map]
  unfold Bo storedH
  rw[e]
  by_cases q:(atKey xs k).isSome=true
  . rw[if_pos q,if_pos q];exact r.repl k ry
  . rw[if_neg q,if_neg q];exact Paired.snoc r ⟨rfl,hb,ry⟩
theorem KT.keeps{H H':Hp}{kvs:List (List Key × V)}{xs:List (List Key × Addr × Value)}(r:KT H kvs xs)(ht:∀ b ys,H b=some (.tup ys)->H' b=some (.tup ys)):KT H' kvs xs:=
  Paired.mapP r λ _ _ z=>⟨z.1,ht _ _ z.2.1,z.2.2⟩
section
variable{P:Program}{w:World}{H:Hp}{h:Heap}{a:Addr}
theorem MK{u:HO}(ok:HOk P w H h)(e:Rd H a u):ObjOk P w H h a u:=e.ok ok
theorem Ji{kvs:List (Key × V)}(ok:HOk P w H h)(e:Rd H a (.dK kvs)):kvs.length <= sizeLine/\(a == sysModules)=false/\∃ vs,KV kvs vs/\h.DictOf (B8 P w) a vs:=
  show ObjOk P w H h a (.dK kvs)from MK ok e
theorem Me{kvs:List (Key × V)}(ok:HOk P w H h)(e:H a=some (.dK kvs)):kvs.length <= sizeLine/\(a == sysModules)=false/\∃ vs,KV kvs vs/\h.DictOf (B8 P w) a vs:=Ji ok (.inl e)
theorem Hx{ks:List Key}(ok:HOk P w H h)(e:H a=some (.tup (ks.map kV))):(tupleKind (B8 P w)).is h ks a:=by
  obtain⟨_,its,r,o,h1,h2,⟨n,h3⟩,_⟩:=(show ObjOk P w H h a (.tup (ks.map kV))from ok a _ e)
  exact⟨o,its.toArray,n,h1,h2,h3,by simpa using Ga r⟩
theorem Jh{kvs:List (List Key × V)}(ok:HOk P w H h)(e:Rd H a (.dT kvs)):kvs.length <= sizeLine/\(a == sysModules)=false /\
    ∃ xs,KT H kvs xs/\h.DictOfH (tupleKind (B8 P w)) a xs:=by
  obtain⟨z,y,xs,r,o,es,ep,h1,h2,h3,h4,h5⟩:=(show ObjOk P w H h a (.dT kvs)from MK ok e)
  refine⟨z,y,xs,r,o,es,ep,h1,h2,h3,h4,λ x hx=>?_,h5⟩
  have all:∀ {l:List (List Key × V)} {m:List (List Key × Addr × Value)},KT H l m->∀ x ∈ m,(tupleKind (B8 P w)).is h x.1 x.2.1:=by
    intro l m q
    induction q with
    | nil=>intro x hx;exact nomatch hx
    | @cons p q ps qs hq t ih=>
      intro x hx
      rcases List.mem_cons.mp hx with e|hx
      . subst e
        exact Hx ok (by rw[<- hq.1];exact hq.2.1)
      . exact ih x hx
  exact all r x hx
theorem RQ{kvs:List (List Key × V)}(ok:HOk P w H h)(e:H a=some (.dT kvs)):kvs.length <= sizeLine/\(a == sysModules)=false /\
    ∃ xs,KT H kvs xs/\h.DictOfH (tupleKind (B8 P w)) a xs:=Jh ok (.inl e)
end
noncomputable def DGet(H:Hp)(a:Addr)(y:V)(r:Option V):Prop:=
  (∃ kvs k,Rd H a (.dK kvs)/\y=kV k/\r=CW kvs k) ∨ ∃ kvs k b,Rd H a (.dT kvs)/\y=.ref b/\H b=some (.tup (k.map kV))/\r=CW kvs k
noncomputable def DPut(H:Hp)(a:Addr)(y v:V)(H':Hp):Prop:=
  (∃ kvs k,H a=some (.dK kvs)/\y=kV k/\kvs.length < sizeLine/\H'=upd H a (.dK (Bo kvs k v))) ∨
  ∃ kvs k b,H a=some (.dT kvs)/\y=.ref b/\H b=some (.tup (k.map kV))/\kvs.length < sizeLine/\H'=upd H a (.dT (Bo kvs k v))
theorem DGet.k{H:Hp}{a:Addr}{kvs:List (Key × V)}{k:Key}(e:H a=some (.dK kvs)):DGet H a (kV k) (CW kvs k):=.inl ⟨kvs,k,.inl e,rfl,rfl⟩
theorem DPut.k{H:Hp}{a:Addr}{kvs:List (Key × V)}{k:Key}{v:V}(e:H a=some (.dK kvs))(hl:kvs.length < sizeLine):DPut H a (kV k) v (upd H a (.dK (Bo kvs k v))):=.inl ⟨kvs,k,e,rfl,hl,rfl⟩
section
variable{X:Cx}{pins:List (Addr × Obj)}{σ:St}{H:Hp}{s:Shared}{a:Addr}{y v:V}{u r:Value}{o:Option V}{A:Around}{E:Value->Shared->Prop}
theorem Inv.big(I:Inv X pins σ H s):sysModules < s.heap.objs.size:=by
  have h:mainGlobals < s.heap.objs.size:=(I.mod.glob.keeps I.bk).lt
  exact Nat.lt_trans (by decide) h
theorem Ke{Q:Value->Shared->Prop}(hu:A.units + 1 < cLine)(I:Inv X pins σ H s)(g:DGet H a y (some v))(ry:RelV y u)(h:∀ w' s',Inv X pins σ H s'->RelV v w'->Q w' s') :
    wpAny (model X.prog X.w) A (getItem (.ref a) u) Q E s:=by
  rcases g with⟨kvs,k,e,ey,l⟩|⟨kvs,k,b,e,ey,eb,l⟩
  . subst ey
    obtain⟨z,hd,vs,rel,dd⟩:=Ji I.hok e
    obtain⟨w',hw,rw'⟩:=RelO.some_of (v:=v) (o:=valueAt vs k) (by rw[l];exact rel.val k)
    exact wpAny_getItem_of (Gy ry) dd.mapOf hw (h w' _ (I.tok _) rw')
  . subst ey
    cases(show u=Value.ref b from ry)
    obtain⟨z,hd,xs,rel,dd⟩:=Jh I.hok e
    obtain⟨w',hw,rw'⟩:=RelO.some_of (v:=v) (o:=(atKey xs k).map (·.2)) (by rw[l];exact rel.val k)
    obtain⟨p,hp,hp2⟩:=Option.map_eq_some_iff.mp hw
    refine wpAny_getItem_heap (tupleKind_room_in1 hu) (Hx I.hok eb) dd hp ?_
    rw[hp2]
    exact h w' _ (I.tok _) rw'
theorem GS{h':Heap}{t':Nat}{ob:HO}(I:Inv X pins σ H s)(mu:Mut (H a))(hs:Heap.SameBut a s.heap h')(he:∃ q,h'.get? a=some q)(new:ObjOk X.prog X.w (upd H a ob) h' a ob) :
    Inv X pins σ (upd H a ob) { s with heap:=h',toks:=t' }:=
  I.write (x:=a) (e:=a) mu (.inl rfl) (λ b q hb z=>(hs.2 b hb).trans z) he new
theorem KY{P:Program}{w:World}{H':Hp}{h':Heap}{kvs:List (Key × V)}{vs:List (Key × Value)}(z:kvs.length <= sizeLine)(hd:(a == sysModules)=false)(rel:KV kvs vs)(dd:h'.DictOf (B8 P w) a vs) :
    ObjOk P w H' h' a (.dK kvs):=⟨z,hd,vs,rel,dd⟩
theorem Kd{H':Hp}{Q:Unit->Shared->Prop}(hu:A.units + 1 < cLine)(I:Inv X pins σ H s)(g:DPut H a y v H')(ry:RelV y u)(rv:RelV v r)(h:∀ s',Inv X pins σ H' s'->Q () s') :
    wpAny (model X.prog X.w) A (setItem (.ref a) u r) Q E s:=by
  rcases g with⟨kvs,k,e,ey,l,eH⟩|⟨kvs,k,b,e,ey,eb,l,eH⟩
  . subst ey eH
    obtain⟨z,hd,vs,rel,dd⟩:=Me I.hok e
    have hz:vs.length <= sizeLine:=by rw[<- rel.length];exact z
    have hl:(Bo kvs k v).length <= sizeLine:=by have:=Dh kvs k v;omega
    refine wpAny_setItem_pairs (hsz:=hz) (Gy ry) dd λ h' dd' hs=>h _ ?_
    have he:∃ q,h'.get? a=some q:=let ⟨q,_,_,hq,_⟩:=dd';⟨q,hq⟩
    exact GS I (by rw[e];exact True.intro) hs he (KY hl hd (rel.put k rv) dd')
  . subst ey eH
    cases(show u=Value.ref b from ry)
    obtain⟨z,hd,xs,rel,dd⟩:=RQ I.hok e
    have hz:xs.length <= sizeLine:=by rw[<- Paired.length rel];exact z
    have hl:(Bo kvs k v).length <= sizeLine:=by have:=Dh kvs k v;omega
    refine wpAny_setItem_heap (hsz:=hz) (tupleKind_room_in1 hu) (Hx I.hok eb) dd λ h' dd' hs=>h _ ?_
    obtain⟨q,es,ep,hq,h2,h3,h4,_,h5⟩:=dd'
    refine GS I (by rw[e];exact True.intro) hs ⟨q,hq⟩ ⟨hl,hd,_,(rel.put k eb rv).keeps λ c ys ec=>?_,q,es,ep,hq,h2,h3,h4,h5⟩
    rw[AI (Qt ec e (λ z=>nomatch z))]
    exact ec
end
section
variable{X:Cx}{pins:List (Addr × Obj)}{σ:St}{H:Hp}{s:Shared}{a:Addr}{kvs:List (Key × V)}{k:Key}{u:Value}{A:Around}{E:Value->Shared->Prop}
end
noncomputable def M4(i:Expr):Prop:=∀ ov iv,subscripted i false ov iv=operate [ov,iv] (getItem ov iv)
theorem Ms{prog:Program}{w:World}{A:Around}{E:Value->Shared->Prop}{s:Shared}{env:Env}{value slice:Expr}{pos:Pos}{T id:String}{Q:Value->Shared->Prop}
    (hl:typeLookup (.type T) "__getitem__"=pure (some (.builtin id))) (hs:M4 slice)
    (h:wpAny (model prog w) A (eval value env) (λ o s₁=>wpAny (model prog w) A (eval slice env) (λ i s₂=>s₂.TypeIs o T/\wpAny (model prog w) A (getItem o i) Q E s₂) E s₁) E s) :
    wpAny (model prog w) A (eval (.Subscript value slice pos) env) Q E s:=by
  refine Subscript_ (wpAny_mono h (λ o s₁ h₁=>wpAny_mono h₁ (λ i s₂ h₂=>?_) λ _ _ x=>x) λ _ _ x=>x)
  obtain⟨hT,h₂⟩:=h₂
  unfold subscriptTail
  refine wpAny_bind ?_
  rw[getitemInPython_of_ne hT.not_modules]
  refine wpAny_bind (wpAny_specialOf hT hl ?_)
  have fin:wpAny (model prog w) A (subscripted slice false o i) (λ r s₃=>wpAny (model prog w) A (letTemporaryGo value o r >>= λ _=>pure r) Q E s₃) E s₂:=by
    rw[hs o i]
    exact wpAny_operating (wpAny_mono h₂ (λ r s₃ h₃=>wpAny_bind (wpAny_letTemporaryGo (wpAny_pure h₃))) λ _ _ x=>x)
  first
    | exact wpAny_pure (wpAny_bind fin)
    | exact wpAny_bind (wpAny_pure (wpAny_bind fin))
    | exact wpAny_bind fin
theorem IR{X:Cx}{pins:List (Addr × Obj)}{σ:St}{H:Hp}{s:Shared}{a:Addr}{y:V}{o:Option V}(I:Inv X pins σ H s)(g:DGet H a y o):s.TypeIs (.ref a) "dict":=by
  rcases g with⟨kvs,k,e,_,_⟩|⟨kvs,k,b,e,_,_,_⟩
  . obtain⟨_,_,vs,_,dd⟩:=Ji I.hok e
    exact dd.typeIs
  . obtain⟨_,_,xs,_,dd⟩:=Jh I.hok e
    exact dd.typeIs
noncomputable def JE(td ty:TE):TE:=λ σ H Q=>td σ H λ x H1=>ty σ H1 λ y H2=>∃ a v,x=.ref a/\DGet H2 a y (some v)/\Q v H2
noncomputable def JG(td ty tv:TE):TS:=λ D σ H=>tv σ H λ v H1=>td σ H1 λ x H2=>ty σ H2 λ y H3=>∃ a H4,x=.ref a/\DPut H3 a y v H4/\D.nx σ H4
section
variable{X:Cx}{o i e value:Expr}{pos pos' tpos:Pos}{td ty tv:TE}
theorem No(hu:X.A.units + 1 < cLine)(ho:PE X o td)(hi:PE X i ty)(hs:M4 i):PE X (.Subscript o i pos) (JE td ty):=by
  intro pins s σ H Q I h
  refine Ms PySem.F.slot_dict_getitem.lookup hs (thn (ho pins s σ H _ I h) λ u s1 ⟨x,H1,I1,rx,q1⟩=>thn (hi pins s1 σ H1 _ I1 q1) λ iv s2 ⟨y,H2,I2,ry,a,v,ex,g,q2⟩=>?_)
  subst ex
  obtain rfl:u=Value.ref a:=rx
  exact⟨IR I2 g,Ke hu I2 g ry λ w' s3 I3 rw'=>⟨v,H2,I3,rw',q2⟩⟩
theorem Nb(hu:X.A.units + 1 < cLine)(ho:PE X o td)(hi:PE X i ty)(hv:PE X value tv)(hs:swapsWith value (some (.Subscript o i pos')) pos.line X.env=pure false) :
    PS X (.Assign [.Subscript o i pos'] value pos) (JG td ty tv):=by
  intro pins s σ H D I h
  refine wpAny_Assign_Subscript (thn (hv pins s σ H _ I h) λ r s1 ⟨v,H1,I1,rv,q1⟩=>thn (ho pins s1 σ H1 _ I1 q1) λ u s2 ⟨x,H2,I2,rx,q2⟩=>thn (hi pins s2 σ H2 _ I2 q2) λ iv s3 ⟨y,H3,I3,ry,a,H4,ex,g,q3⟩=>?_) hs
  subst ex
  obtain rfl:u=Value.ref a:=rx
  exact Kd hu I3 g ry rv λ s4 I4=>⟨σ,H4,I4,q3⟩
end
theorem Lv{P:Program}{w:World}{H:Hp}(h:Heap)(hb:sysModules < h.objs.size):ObjOk P w H (h.push { cls:=.type "dict",data:=.dict #[] }) h.objs.size (.dK []):=
  ⟨Nat.zero_le _,beq_eq_false_iff_ne.mpr (Ne.symm (Nat.ne_of_lt hb)),[],.nil,Heap.DictOf.new h⟩
section
variable{X:Cx}{pos:Pos}
end
noncomputable def ER:List (TE × TE)->St->Hp->(List (V × V)->Hp->Prop)->Prop
  | [],_,H,Q=>Q [] H
  | (tk,tv) :: r,σ,H,Q=>tk σ H λ x H1=>tv σ H1 λ y H2=>ER r σ H2 λ ps H3=>Q ((x,y) :: ps) H3
noncomputable abbrev VV:List (V × V)->List (Value × Value)->Prop:=Paired λ p q=>RelV p.1 q.1/\RelV p.2 q.2
noncomputable def PPs(X:Cx)(pos:Pos)(keys:List (Option Expr))(values:List Expr)(trs:List (TE × TE)):Prop:=
  ∀ (pins:List (Addr × Obj)) (s:Shared) (σ:St) (H:Hp) (Q:List (V × V)->Hp->Prop),Inv X pins σ H s->ER trs σ H Q ->
    wpAny (model X.prog X.w) X.A (evalPairs (pairTrees keys values X.env pos)) (λ vs s'=>∃ ps H',Inv X pins σ H' s'/\VV ps vs/\Q ps H') X.xe s
theorem Nc{X:Cx}{pos:Pos}:PPs X pos [] [] []:=λ pins s σ H Q I h=>pairTrees_nil_walk ⟨[],H,I,.nil,h⟩
theorem LX{X:Cx}{pos:Pos}{k v:Expr}{ks:List (Option Expr)}{vs:List Expr}{tk tv:TE}{trs:List (TE × TE)}(hk:PE X k tk)(hv:PE X v tv)(hr:PPs X pos ks vs trs) :
    PPs X pos (some k :: ks) (v :: vs) ((tk,tv) :: trs):=λ pins s σ H Q I h=>
  pairTrees_cons_walk (thn (hk pins s σ H _ I h) λ u s1 ⟨x,H1,I1,rx,q1⟩=>thn (hv pins s1 σ H1 _ I1 q1) λ w2 s2 ⟨y,H2,I2,ry,q2⟩=>
    thn (hr pins s2 σ H2 _ I2 q2) λ ws s3 ⟨ps,H3,I3,rel,q3⟩=>⟨(x,y) :: ps,H3,I3,.cons ⟨rx,ry⟩ rel,q3⟩)
noncomputable def Co(kvs more:List (Key × V)):List (Key × V):=more.foldl (λ acc kv=>Bo acc kv.1 kv.2) kvs
theorem KV.merge:∀ {more:List (Key × V)} {rs:List (Key × Value)} {kvs:List (Key × V)} {vs:List (Key × Value)},KV more rs->KV kvs vs->KV (Co kvs more) (merged vs rs):=by
  intro more rs kvs vs r
  unfold KV at r
  induction r generalizing kvs vs with
  | nil=>intro q;exact q
  | @cons p q ps qs h t ih=>
    intro r0
    have e:KV (Bo kvs p.1 p.2) (stored vs q.1 q.2):=by
      have:=r0.put p.1 h.2
      rw[<- h.1];exact this
    exact ih e
theorem EN:∀ (more kvs:List (Key × V)),(Co kvs more).length <= kvs.length + more.length
  | [],kvs=>by show kvs.length <= kvs.length + 0;omega
  | p :: r,kvs=>by
    have h1:=EN r (Bo kvs p.1 p.2)
    have h2:=Dh kvs p.1 p.2
    show(Co (Bo kvs p.1 p.2) r).length <= _
    rw[List.length_cons];omega
theorem G3{P:Program}{w:World}:∀ {kvs:List (Key × V)} {ws:List (Value × Value)},VV (kvs.map λ kv=>(kV kv.1,kv.2)) ws->∃ rs,Carries (B8 P w) ws rs/\KV kvs rs
  | [],_,r=>by rw[List.map_nil]at r;cases r;exact⟨[],True.intro,.nil⟩
  | p :: kvs,_,r=>by
    rw[List.map_cons]at r
    cases r with
    | @cons a b as bs h t=>
      obtain⟨rs,c,q⟩:=G3 (P:=P) (w:=w) t
      obtain⟨b1,b2⟩:=b
      exact⟨(p.1,b2) :: rs,⟨Gy h.1,rfl,c⟩,.cons ⟨rfl,h.2⟩ q⟩
noncomputable def JD(trs:List (TE × TE)):TE:=λ σ H Q=>∀ p,H p=none->ER trs σ (upd H p (.dK [])) λ ps H2=>H2 p=some (.dK [])/\∃ kvs:List (Key × V),ps=kvs.map (λ kv=>(kV kv.1,kv.2))/\kvs.length <= 15/\Q (.ref p) (upd H2 p (.dK (Co [] kvs)))
theorem Nn{X:Cx}{pos:Pos}{keys:List (Option Expr)}{values:List Expr}{trs:List (TE × TE)}(h:PPs X pos keys values trs)(hall:keys.all (·.isSome)=true)(hl:keys.length=values.length)(h0:keys ≠ [])
    (h15:keys.length <= 15):PE X (.Dict keys values pos) (JD trs):=by
  intro pins s σ H Q I q
  have hn:=I.hok.fresh (Nat.le_refl s.heap.objs.size)
  have I1:=I.laid (a:=s.heap.objs.size) (o:=.dK []) (h':=s.heap.push { cls:=.type "dict",data:=.dict #[] }) (t':=s.toks) (λ _ _ q=>Heap.get?_push_of_some _ q) (Nat.le_refl _) (Lv s.heap I.big)
  refine wpAny_Dict_walk (knd:=B8 X.prog X.w) hall hl h0 h15 (thn (h pins _ σ _ _ I1 (q _ hn)) λ ws s2 ⟨ps,H2,I2,rel,e,kvs,ep,lk,q2⟩=>?_)
  subst ep
  obtain⟨rs,c,rk⟩:=G3 (P:=X.prog) (w:=X.w) rel
  obtain⟨z,hd,vs0,r0,dd⟩:=Me I2.hok e
  cases r0
  refine⟨rs,c,dd,λ h' dd' hs=>⟨.ref s.heap.objs.size,_,?_,rfl,q2⟩⟩
  have hz:(Co [] kvs).length <= sizeLine:=by
    have h1:=EN kvs []
    rw[List.length_nil]at h1
    rw[sizeLine_eq];omega
  have he:∃ q,h'.get? s.heap.objs.size=some q:=let ⟨q,_,_,hq,_⟩:=dd';⟨q,hq⟩
  exact GS I2 (by rw[e];exact True.intro) hs he (KY hz hd (rk.merge .nil) dd')
section
variable{X:Cx}{pins:List (Addr × Obj)}{σ:St}{H:Hp}{s:Shared}{a:Addr}{y d:V}{u r:Value}{o:Option V}{A:Around}{E:Value->Shared->Prop}
end
section
variable{X:Cx}{o e f:Expr}{apos cpos:Pos}{td ty tx:TE}
end
section
variable{X:Cx}{pins:List (Addr × Obj)}{σ:St}{H:Hp}{s:Shared}{a:Addr}{kvs:List (Key × V)}{A:Around}{E:Value->Shared->Prop}
end
section
variable{X:Cx}{pins:List (Addr × Obj)}{σ:St}{H:Hp}{s:Shared}{a:Addr}{y:V}{u:Value}{A:Around}{E:Value->Shared->Prop}
end
end L2
namespace L2
open PySem PySem.Spec PyProof.Rows
section
variable{X:Cx}
end
section
variable{κ:Type}[DecidableEq κ]
end
end L2
namespace L2
open PySem PySem.Spec PyProof.Rows
noncomputable def B7(cells:List (Str × Addr)):List (Str × NameKind)->List (Str × Addr)->List (Str × Addr)
  | [],acc=>acc
  | (n,k) :: r,acc=>if k == .free then B7 cells r ((n,(cells.lookup n).getD 0) :: acc)else B7 cells r acc
theorem E2{env:Env}(f:Str × NameKind->List (Str × Addr)->Sem (ForInStep (List (Str × Addr))))
    (hf:∀ name kind cs,f (name,kind) cs=if(kind == NameKind.free)=true then(do let a <- cellOf env name;pure (ForInStep.yield ((name,a) :: cs)))else pure (ForInStep.yield cs)) :
    ∀ (names:List (Str × NameKind)) (acc:List (Str × Addr)),(∀ y ∈ names,y.2=.free->∃ c,env.cells.lookup y.1=some c)->forIn names acc f=pure (B7 env.cells names acc)
  | [],acc,_=>rfl
  | (n,k) :: r,acc,hy=>by
    rw[List.forIn_cons,hf]
    have ih:=λ a=>E2 f hf r a λ z hz=>hy z (List.mem_cons_of_mem _ hz)
    by_cases hk:(k == NameKind.free)=true
    . obtain⟨c,hc⟩:=hy (n,k) List.mem_cons_self (by simpa using hk)
      have hc:env.cells.lookup n=some c:=hc
      have e1:cellOf env n=pure c:=by unfold cellOf;rw[hc]
      rw[if_pos hk,e1]
      show forIn r ((n,c) :: acc) f=_
      have e2:B7 env.cells ((n,k) :: r) acc=B7 env.cells r ((n,c) :: acc):=by
        rw[B7,if_pos hk,hc]
        rfl
      rw[ih,e2]
    . rw[if_neg hk]
      show forIn r acc f=_
      have e2:B7 env.cells ((n,k) :: r) acc=B7 env.cells r acc:=by
        rw[B7,if_neg hk]
      rw[ih,e2]
theorem Gn{scope:Scope}{env:Env}(h:∀ y ∈ scope.names,y.2=.free->∃ c,env.cells.lookup y.1=some c):closureFor scope env=pure (B7 env.cells scope.names []):=by
  unfold closureFor
  dsimp only
  rw[E2 _ (λ name kind cs=>rfl) scope.names [] h]
  rfl
theorem Cw{cells:List (Str × Addr)}:∀ {names:List (Str × NameKind)} {acc:List (Str × Addr)},(∀ y ∈ names,y.2=.free->∃ c,cells.lookup y.1=some c)->(∀ x c,acc.lookup x=some c->cells.lookup x=some c) ->
    ∀ x c,(B7 cells names acc).lookup x=some c->cells.lookup x=some c
  | [],_,_,ha,x,c,e=>ha x c e
  | (n,k) :: r,acc,hy,ha,x,c,e=>by
    unfold B7 at e
    have hr:∀ y ∈ r,y.2=.free->∃ c,cells.lookup y.1=some c:=λ z hz=>hy z (List.mem_cons_of_mem _ hz)
    by_cases hk:(k == NameKind.free)=true
    . rw[if_pos hk]at e
      refine Cw hr (λ z d q=>?_) x c e
      obtain⟨c0,hc0⟩:=hy (n,k) List.mem_cons_self (by simpa using hk)
      have hc0:cells.lookup n=some c0:=hc0
      rw[List.lookup_cons]at q
      by_cases hz:(z == n)=true
      . rw[hz,hc0]at q
        have:z=n:=by simpa using hz
        subst this
        simpa [hc0]using q
      . have hz':(z == n)=false:=by simpa using hz
        rw[hz']at q
        exact ha z d q
    . rw[if_neg hk]at e
      exact Cw hr ha x c e
theorem Cy{cells:List (Str × Addr)}:∀ {names:List (Str × NameKind)} {acc:List (Str × Addr)} {x:Str},((acc.lookup x).isSome=true ∨ (x,NameKind.free) ∈ names)->((B7 cells names acc).lookup x).isSome=true
  | [],_,_,h=>h.elim id λ z=>by cases z
  | (n,k) :: r,acc,x,h=>by
    unfold B7
    by_cases hk:(k == NameKind.free)=true
    . rw[if_pos hk]
      refine Cy ?_
      by_cases hx:(x == n)=true
      . exact .inl (by rw[List.lookup_cons,hx];rfl)
      . have hx':(x == n)=false:=by simpa using hx
        rcases h with h|h
        . exact .inl (by rw[List.lookup_cons,hx'];exact h)
        . rcases List.mem_cons.mp h with h|h
          . cases h;simp at hx
          . exact .inr h
    . rw[if_neg hk]
      refine Cy ?_
      rcases h with h|h
      . exact .inl h
      . rcases List.mem_cons.mp h with h|h
        . cases h;simp at hk
        . exact .inr h
noncomputable def Bt:Nat->List (Str × NameKind)->List (Str × Addr)
  | _,[]=>[]
  | n,(x,k) :: r=>if k == .cell then Bt (n + 1) r ++ [(x,n)]else Bt n r
theorem BX:∀ (names:List (Str × NameKind)) (n:Nat) (acc:List (Str × Addr)),cellsFrom n names acc=Bt n names ++ acc
  | [],_,_=>rfl
  | (x,k) :: r,n,acc=>by
    unfold cellsFrom Bt
    by_cases hk:(k == NameKind.cell)=true
    . rw[if_pos hk,if_pos hk,BX r (n + 1),List.append_assoc];rfl
    . rw[if_neg hk,if_neg hk,BX r n]
theorem FP:∀ (names:List (Str × NameKind)) (n:Nat) (x:Str) (c:Addr),(Bt n names).lookup x=some c->(x,NameKind.cell) ∈ names
  | [],_,_,_,e=>by cases e
  | (y,k) :: r,n,x,c,e=>by
    unfold Bt at e
    by_cases hk:(k == NameKind.cell)=true
    . rw[if_pos hk]at e
      have hk':k=.cell:=by simpa using hk
      rw[List.lookup_append]at e
      cases q:(Bt (n + 1) r).lookup x with
      | some d=>exact List.mem_cons_of_mem _ (FP r _ x d q)
      | none=>
        rw[q]at e
        simp only[Option.none_or,List.lookup_cons]at e
        by_cases hx:(x == y)=true
        . have:x=y:=by simpa using hx
          subst this;subst hk'
          exact List.mem_cons_self
        . have hx':(x == y)=false:=by simpa using hx
          rw[hx']at e;cases e
    . rw[if_neg hk]at e
      exact List.mem_cons_of_mem _ (FP r n x c e)
theorem FQ:∀ (names:List (Str × NameKind)) (n:Nat) (x:Str),(x,NameKind.cell) ∈ names->∃ c,(Bt n names).lookup x=some c
  | [],_,_,h=>by cases h
  | (y,k) :: r,n,x,h=>by
    unfold Bt
    by_cases hk:(k == NameKind.cell)=true
    . rw[if_pos hk,List.lookup_append]
      rcases List.mem_cons.mp h with h|h
      . obtain⟨rfl,rfl⟩:=Prod.mk.inj h
        cases q:(Bt (n + 1) r).lookup x with
        | some d=>exact⟨d,rfl⟩
        | none=>exact⟨n,by simp[List.lookup_cons]⟩
      . obtain⟨c,hc⟩:=FQ r (n + 1) x h
        exact⟨c,by rw[hc];rfl⟩
    . rw[if_neg hk]
      rcases List.mem_cons.mp h with h|h
      . cases h;simp at hk
      . exact FQ r n x h
noncomputable def QC(scope:Scope)(C:Addr)(env:Env):Env:=
  { scope:=relabel scope env,locals:=C,globals:=env.globals,cells:=cellsFrom (C + 1) scope.names (B7 env.cells scope.names []),qual:=env.qual,func:=none,code:=env.code,frame:=env.frame,builtins:=env.builtins }
theorem Nx{M:Model}{A:Around}{E:Value->Shared->Prop}{s:Shared}{scope:Scope}{cl:List (Str × Addr)}{env:Env}{Q:Env->Shared->Prop}
    (hQ:∀ h',(∀ b o,s.heap.get? b=some o->h'.get? b=some o)->h'.Ns s.heap.objs.size (λ _=>none)->(∀ x c,(Bt (s.heap.objs.size + 1) scope.names).lookup x=some c->h'.IsCell c none/\s.heap.objs.size < c) ->
      ((Bt (s.heap.objs.size + 1) scope.names).Pairwise λ x y=>x.2 ≠ y.2) ->
      Q { scope:=scope,locals:=s.heap.objs.size,globals:=env.globals,cells:=cellsFrom (s.heap.objs.size + 1) scope.names cl,qual:=env.qual,func:=none,code:=env.code,frame:=env.frame,builtins:=env.builtins } { s with heap:=h' }) :
    wpAny M A (newFunctionEnv scope env.globals cl [] env.qual none .none (some env)) Q E s:=by
  simp only[newFunctionEnv,Option.isSome_some,if_true]
  refine wpAny_bind (wpAny_alloc ?_)
  refine wpAny_bind (wpAny_layCells _ (λ name kind cells=>by cases hkc:kind == NameKind.cell <;> simp[hkc]) _ _ _ _ ?_)
  have ok:=cellsFrom_ok scope.names (s.heap.push { cls:=.type "dict",data:=.dict #[] }) (s.heap.objs.size + 1) [] ⟨λ _ _ hm=>(nomatch hm),List.Pairwise.nil⟩ (by rw[Heap.size_push];exact Nat.le_refl _)
  rw[Heap.size_push,BX,List.append_nil]at ok
  rw[show({ s with heap:=s.heap.push { cls:=.type "dict",data:=.dict #[] } }:Shared).heap.objs.size=s.heap.objs.size + 1 from Heap.size_push ..]
  refine wpAny_bind (wpAny_pure (wpAny_pure ?_))
  exact hQ _ (λ b o e=>pushCells_keeps _ _ b o (Heap.get?_push_of_some _ e)) ((Heap.Ns.new s.heap (.type "dict")).keeps (pushCells_keeps _ _)) (λ x c hc=>⟨(ok.empty x c (mem_of_lookup hc)).1,(ok.empty x c (mem_of_lookup hc)).2⟩) ok.apart
end L2
namespace L2
open PySem PySem.Spec PyProof.Rows
theorem GY:∀ {names:List (Str × NameKind)} {x:Str} {k k':NameKind},(names.map (·.1)).Nodup->(x,k) ∈ names->(x,k') ∈ names->k=k'
  | [],_,_,_,_,h,_=>by cases h
  | (y,q) :: r,x,k,k',nd,h,h'=>by
    have nd:(y :: r.map (·.1)).Nodup:=nd
    obtain⟨n1,n2⟩:=List.nodup_cons.mp nd
    have out:∀ {z:NameKind},(y,z) ∈ r->False:=λ m=>n1 (List.mem_map.mpr ⟨_,m,rfl⟩)
    rcases List.mem_cons.mp h with e|e <;> rcases List.mem_cons.mp h' with e'|e'
    . cases e;cases e';rfl
    . cases e;exact(out e').elim
    . cases e';exact(out e).elim
    . exact GY n2 e e'
theorem EL{env:Env}{x:Str}:∀ {names:List (Str × NameKind)},names.lookup x=some .free ->
    (names.map λ(n,k)=>if(k == NameKind.free && env.scope.kind == .function && env.kindOf n == some .cell)then(n,NameKind.cell)else(n,k)).lookup x=some .cell ∨
    (names.map λ(n,k)=>if(k == NameKind.free && env.scope.kind == .function && env.kindOf n == some .cell)then(n,NameKind.cell)else(n,k)).lookup x=some .free
  | [],h=>by simp at h
  | (n,k) :: r,h=>by
    have ih:=@EL env x r
    show List.lookup x ((if(k == NameKind.free && env.scope.kind == .function && env.kindOf n == some .cell)=true then(n,NameKind.cell)else(n,k)) :: _)=_ ∨ List.lookup x ((if(k == NameKind.free && env.scope.kind == .function && env.kindOf n == some .cell)=true then(n,NameKind.cell)else(n,k)) :: _)=_
    cases hx:x == n with
    | true=>
      simp only[List.lookup_cons,hx]at h
      cases h
      by_cases hc:(NameKind.free == NameKind.free && env.scope.kind == .function && env.kindOf n == some .cell)=true
      . rw[if_pos hc];exact .inl (by simp only[List.lookup_cons,hx])
      . rw[if_neg hc];exact .inr (by simp only[List.lookup_cons,hx])
    | false=>
      simp only[List.lookup_cons,hx]at h
      by_cases hc:(k == NameKind.free && env.scope.kind == .function && env.kindOf n == some .cell)=true
      . rw[if_pos hc];simp only[List.lookup_cons,hx];exact ih h
      . rw[if_neg hc];simp only[List.lookup_cons,hx];exact ih h
theorem ET{env:Env}{x:Str}:∀ {names:List (Str × NameKind)},
    ((names.map λ(n,k)=>if(k == NameKind.free && env.scope.kind == .function && env.kindOf n == some .cell)then(n,NameKind.cell)else(n,k)).lookup x=some .cell ∨
    (names.map λ(n,k)=>if(k == NameKind.free && env.scope.kind == .function && env.kindOf n == some .cell)then(n,NameKind.cell)else(n,k)).lookup x=some .free) ->
    names.lookup x=some .cell ∨ names.lookup x=some .free
  | [],h=>by simp at h
  | (n,k) :: r,h=>by
    have ih:=@ET env x r
    have h:List.lookup x ((if(k == NameKind.free && env.scope.kind == .function && env.kindOf n == some .cell)=true then(n,NameKind.cell)else(n,k)) :: _)=_ ∨ List.lookup x ((if(k == NameKind.free && env.scope.kind == .function && env.kindOf n == some .cell)=true then(n,NameKind.cell)else(n,k)) :: _)=_:=h
    cases hx:x == n with
    | true=>
      by_cases hc:(k == NameKind.free && env.scope.kind == .function && env.kindOf n == some .cell)=true
      . have hk:k=.free:=by
          have:=(Bool.and_eq_true _ _ ▸ (Bool.and_eq_true _ _ ▸ hc).1:(k == NameKind.free)=true/\_).1
          simpa using this
        exact .inr (by simp only[List.lookup_cons,hx,hk])
      . rw[if_neg hc]at h
        simp only[List.lookup_cons,hx]at h ⊢
        exact h
    | false=>
      simp only[List.lookup_cons,hx]
      refine ih ?_
      by_cases hc:(k == NameKind.free && env.scope.kind == .function && env.kindOf n == some .cell)=true
      . rw[if_pos hc]at h;simp only[List.lookup_cons,hx]at h;exact h
      . rw[if_neg hc]at h;simp only[List.lookup_cons,hx]at h;exact h
noncomputable def cCx(X:Cx)(N':List Str)(scope:Scope)(s:Shared)(H:Hp)(ex:List Addr):Cx:=
  { X with N:=N',s₀:=s,H₀:=H,env:=QC scope s.heap.objs.size X.env,outer:=X.stack,ex:=ex,fn:=λ x=>decide ((x,NameKind.cell) ∈ scope.names),pn:=[],xe:=λ _ _=>False }
structure CSc(X:Cx)(scope:Scope)(fr:List Str)(ix:List Nat):Prop where
  kind:scope.kind=.function
  nd:(scope.names.map (·.1)).Nodup
  free:(scope.names.all λ y=>y.2 != .free || X.env.kindOf y.1 == some .cell || X.env.kindOf y.1 == some .free)=true
  frs:(fr.all λ x=>scope.names.lookup x == some .free)=true
  ixs:fr.map some=ix.map λ i=>X.N[i]?
  loc:(scope.names.all λ y=>y.2 != .local || scope.names.lookup y.1 == some .local)=true
noncomputable def FV(n:Nat)(ix:List Nat)(σ:St):St:=List.replicate n none ++ ix.map λ i=>(σ[i]?).join
section
variable{X:Cx}{scope:Scope}{fr loc:List Str}{ix:List Nat}{pins:List (Addr × Obj)}{σ:St}{H:Hp}{s:Shared}
theorem CSc.outer(S:CSc X scope fr ix){y:Str × NameKind}(hy:y ∈ scope.names)(e:y.2=.free):X.env.kindOf y.1=some .cell ∨ X.env.kindOf y.1=some .free:=by
  have h:=List.all_eq_true.mp S.free y hy
  rw[e]at h
  simpa using h
theorem CSc.clos(S:CSc X scope fr ix)(ok:X.Ok):∀ y ∈ scope.names,y.2=.free->∃ c,X.env.cells.lookup y.1=some c:=λ y hy e=>ok.has y.1 (S.outer hy e)
theorem CB(S:CSc X scope fr ix)(ok:X.Ok){n:Nat}{x:Str}{c:Addr}(e:(cellsFrom n scope.names (B7 X.env.cells scope.names [])).lookup x=some c) :
    (Bt n scope.names).lookup x=some c ∨ X.env.cells.lookup x=some c:=by
  rw[BX,List.lookup_append]at e
  cases q:(Bt n scope.names).lookup x with
  | some d=>rw[q]at e;exact .inl e
  | none=>
    rw[q]at e
    exact .inr (Cw (S.clos ok) (λ _ _ z=>by simp at z) x c e)
theorem Lo(S:CSc X scope fr ix)(I:Inv X pins σ H s){ex:List Addr}(hex:∀ b ∈ ex,EJ X pins H b){h':Heap}(hk:∀ b o,s.heap.get? b=some o->h'.get? b=some o)(hn:h'.Ns s.heap.objs.size λ _=>none)
    (ho:∀ x c,(Bt (s.heap.objs.size + 1) scope.names).lookup x=some c->h'.IsCell c none/\s.heap.objs.size < c) (ha:(Bt (s.heap.objs.size + 1) scope.names).Pairwise λ x y=>x.2 ≠ y.2) (hlt:∀ b ∈ ex,b < s.heap.objs.size) :
    Inv (cCx X (loc ++ fr) scope s H ex) [] (FV loc.length ix σ) H { s with heap:=h' }:=by
  have old:∀ x c,X.env.cells.lookup x=some c->c < s.heap.objs.size:=λ x c e=>let ⟨v,z⟩:=I.cell x c e;z.lt
  have lenix:fr.length=ix.length:=by simpa using congrArg List.length S.ixs
  refine⟨⟨I.ok.mod,?_,I.ok.glob,I.ok.blt,Nat.le_refl _,?_,?_,?_,I.ok.hd,I.ok.frames,.inl rfl,?_,I.bs,Nat.le_trans I.ok.bsz I.sz,?_,?_,I.stack,I.stkFree⟩,rfl,I.bare,Un.kept hk,⟨_,hn,?_⟩,?_,I.hok.fresh (Nat.le_refl _),?_,?_,I.hok.kept hk,?_⟩
  . exact S.kind
  . intro x y c e1 e2
    rcases CB S I.ok e1 with a|a <;> rcases CB S I.ok e2 with b|b
    . exact name_of_addr ha (PySem.mem_of_lookup a) (PySem.mem_of_lookup b)
    . exact absurd (Nat.lt_trans (ho x c a).2 (old y c b)) (Nat.lt_irrefl _)
    . exact absurd (Nat.lt_trans (ho y c b).2 (old x c a)) (Nat.lt_irrefl _)
    . exact I.ok.inj x y c a b
  . intro x hx
    rcases ET hx with e|e
    . exact Option.isSome_iff_exists.mp (PySem.W.cellsFrom_some _ _ _ (.inl e))
    . exact Option.isSome_iff_exists.mp (PySem.W.cellsFrom_some _ _ _ (.inr (Cy (.inr (PySem.mem_of_lookup e)))))
  . intro x c hf e
    have hf:(x,NameKind.cell) ∈ scope.names:=of_decide_eq_true hf
    obtain⟨d,hd⟩:=FQ scope.names (s.heap.objs.size + 1) x hf
    have e':(cellsFrom (s.heap.objs.size + 1) scope.names (B7 X.env.cells scope.names [])).lookup x=some c:=e
    rw[BX,List.lookup_append,hd]at e'
    cases e'
    exact Nat.le_of_lt (ho x _ hd).2
  . intro b hb
    refine⟨Nat.ne_of_lt (hlt b hb),λ x c e z=>?_⟩
    rcases CB S I.ok e with a|a
    . exact absurd (Nat.lt_trans (ho x c a).2 (by rw[z];exact hlt b hb)) (Nat.lt_irrefl _)
    . exact(hex b hb).2.2.2.2.1 x c a z
  . intro b o e hb
    rcases(hex b hb).2.2.2.1 with z|z
    . exact I.ok.noex b o e z
    . exact absurd (Nat.lt_of_lt_of_le (Heap.lt_size (I.ok.bs b o e).1) z) (Nat.lt_irrefl _)
  . intro b hb hf
    rcases List.mem_cons.mp (I.stkSub b hf)with z|z
    . exact(hex b hb).2.1 z
    . exact(hex b hb).2.2.1 z
  . intro i x v e1 e2 e3
    have e1:(loc ++ fr)[i]? = some x:=e1
    unfold FV at e2
    by_cases hi:i < loc.length
    . rw[List.getElem?_append_left (by simpa using hi),List.getElem?_replicate]at e2
      split at e2 <;> cases e2
    . have hi':loc.length <= i:=Nat.not_lt.mp hi
      rw[List.getElem?_append_right (by simpa using hi')]at e2
      rw[List.getElem?_append_right hi']at e1
      rw[List.length_replicate,List.getElem?_map]at e2
      generalize hj:i - loc.length=j at e1 e2
      have e4:(fr.map some)[j]? = some (some x):=by rw[List.getElem?_map,e1];rfl
      rw[S.ixs,List.getElem?_map]at e4
      cases q:ix[j]? with
      | none=>rw[q]at e2;cases e2
      | some k=>
        rw[q]at e2 e4
        have e2:(σ[k]?).join=some v:=Option.some.inj e2
        have e4:X.N[k]? = some x:=Option.some.inj e4
        have e5:σ[k]? = some (some v):=by
          cases w:σ[k]? with
          | none=>rw[w]at e2;cases e2
          | some z=>rw[w]at e2;simpa using e2
        have hfx:=List.all_eq_true.mp S.frs x (List.mem_of_getElem? e1)
        have hfx:scope.names.lookup x=some .free:=by simpa using hfx
        have hmem:=PySem.mem_of_lookup hfx
        have hout:=S.outer hmem rfl
        obtain⟨m,hm,hl⟩:=I.loc
        obtain⟨u,r,l⟩:=hl k x v e4 e5 (.inr hout)
        refine⟨u,r,.inr ⟨EL hfx,?_⟩⟩
        rcases l with⟨kk,_⟩|⟨kk,c,ec,z⟩
        . rcases hout with w|w
          . rw[kk]at w;cases w
          . rw[kk]at w;cases w
        . have own0:(Bt (s.heap.objs.size + 1) scope.names).lookup x=none:=by
            cases w:(Bt (s.heap.objs.size + 1) scope.names).lookup x with
            | none=>rfl
            | some d=>exact absurd (GY S.nd (FP _ _ _ _ w) hmem) (by decide)
          have hc:(B7 X.env.cells scope.names []).lookup x=some c:=by
            obtain⟨d,hd⟩:=Option.isSome_iff_exists.mp (Cy (cells:=X.env.cells) (acc:=[]) (.inr hmem))
            have:=Cw (S.clos I.ok) (λ _ _ z=>by simp at z) x d hd
            rw[ec]at this;cases this
            exact hd
          refine⟨c,?_,z.keeps hk⟩
          show(cellsFrom (s.heap.objs.size + 1) scope.names (B7 X.env.cells scope.names [])).lookup x=some c
          rw[BX,List.lookup_append,own0,hc]
          rfl
  . intro x c e
    rcases CB S I.ok e with a|a
    . exact⟨_,(ho x c a).1⟩
    . obtain⟨v,z⟩:=I.cell x c a
      exact⟨v,z.keeps hk⟩
  . intro x c e
    rcases CB S I.ok e with a|a
    . exact I.hok.fresh (Nat.le_of_lt (ho x c a).2)
    . exact I.freeC x c a
  . intro p hp
    cases hp
  . unfold FV
    show _=(loc ++ fr).length
    simp[lenix]
end
end L2
namespace L2
open PySem PySem.Spec PyProof.Rows
section
variable{prog:Program}{w:World}{A:Around}{R:Result->Shared->Prop}{s:Shared}
theorem IC{elt target iter:Expr}{ifs:List Expr}{scope:Scope}{pos:Pos}{it acc:Value}{env:Env}(I:Nat->Shared->Prop)
    (turn:∀ n s,I n s->wpAny (model prog w) A (pyNext it) (λ r s₁=>match r with
      | none=>R (.ok .next) s₁
      | some v=>wpAny (model prog w) A (letOwnedTupleGo target it v) (λ _ s₁=>wpAny (model prog w) A (assign target env v) (λ _ s₂=>
          wpAny (model prog w) A (forIn ifs true λ c r=>if r=true then do let ok <- isTrue c env (eval c env);pure (ForInStep.yield ok)else pure (ForInStep.yield r)) (λ ok s₃=>
            if ok=true then wpAny (model prog w) A (eval elt env) (λ x s₄=>
              wpAny (model prog w) A (call (.builtin "list.append") [acc,x]) (λ _ s₅=>∃ m,m < n/\I m s₅) (λ _ _=>False) s₄) (λ _ _=>False) s₃
            else ∃ m,m < n/\I m s₃) (λ _ _=>False) s₂) (λ _ _=>False) s₁) (λ _ _=>False) s₁) (λ _ _=>False) s)
    (n:Nat) (h:I n s) :
    codeAny (model prog w) A (.compLoop (.ListComp elt [⟨target,iter,ifs,0⟩] scope pos) 0 it acc env) R s:=by
  refine codeAny_loop rfl I (λ n s hI=>?_) n h
  show wpAny _ A ((compTurn (.ListComp elt [⟨target,iter,ifs,0⟩] scope pos) 0 it acc env).onRaise (λ x=>do noteFrame x env;theTreesLotGoes x)) _ _ s
  refine wpAny_noted ?_
  rw[compTurn_list]
  refine wpAny_bind (wpAny_standAt (wpAny_bind (wpAny_mono (turn n s hI) (λ r s₁ h₁=>?_) λ _ _ h'=>h'.elim)))
  cases r with
  | none=>exact wpAny_pure h₁
  | some v=>
    refine wpAny_bind (wpAny_mono h₁ (λ _ s₁ h₁=>?_) λ _ _ h'=>h'.elim)
    refine wpAny_bind (wpAny_mono h₁ (λ _ s₂ h₂=>wpAny_bind (wpAny_mono h₂ (λ ok s₃ h₃=>?_) λ _ _ h'=>h'.elim)) λ _ _ h'=>h'.elim)
    cases ok with
    | false=>exact wpAny_pure ⟨rfl,h₃⟩
    | true=>
      exact wpAny_bind (wpAny_bind (wpAny_mono h₃ (λ x s₄ h₄=>wpAny_bind (wpAny_mono h₄ (λ _ s₅ h₅=>wpAny_pure (wpAny_pure ⟨rfl,h₅⟩)) λ _ _ h'=>h'.elim)) λ _ _ h'=>h'.elim))
end
noncomputable def PF(X:Cx)(ifs:List Expr)(t:TT):Prop:=
  ∀ (pins:List (Addr × Obj)) (s:Shared) (σ:St) (H:Hp) (Q:Bool->Hp->Prop),Inv X pins σ H s->t σ H Q ->
    wpAny (model X.prog X.w) X.A (forIn ifs true λ c r=>if r=true then do let ok <- isTrue c X.env (eval c X.env);pure (ForInStep.yield ok)else pure (ForInStep.yield r)) (TP X pins σ Q) X.xe s
noncomputable def Km:TT:=λ _ H Q=>Q true H
theorem PR{X:Cx}:PF X [] Km:=λ pins s σ H Q I h=>wpAny_tests_nil ⟨H,I,h⟩
noncomputable def RX(J:It)(D:Addr)(σ0:St)(H0:Hp)(g:TG)(tf:TT)(te:TE)(Q:VK):Prop:=∃ W:Nat->Nat->St->List V->Hp->Prop,
  (∃ m,W 0 m σ0 [] (upd H0 D (.lst [])))/\∀ i m σ ys H,W i m σ ys H->H D=some (.lst ys) /\
    ((J.stop i H/\Q (.ref D) H) ∨ (J.go i H/\ys.length < sizeLine/\∃ N:St->List V->Hp->Prop,(∀ σ' ys' H',N σ' ys' H'->∃ m',m' < m/\W (i + 1) m' σ' ys' H') /\
      ∀ x H',J.yld i H x H'->g x σ H' λ σ2 H2=>tf σ2 H2 λ b H3=>
        if b=true then te σ2 H3 λ v H4=>H4 D=some (.lst ys)/\N σ2 (ys ++ [v]) (upd H4 D (.lst (ys ++ [v])))
        else N σ2 ys H3))
noncomputable def JF(n:Nat)(ix:List Nat)(wi:TI)(g:TG)(tf:TT)(te:TE):TE:=λ σ H Q=>wi σ H λ J H1=>∀ D,H1 D=none->RX J D (FV n ix σ) H1 g tf te Q
section
variable{X:Cx}
theorem QK{pins:List (Addr × Obj)}{σ:St}{H:Hp}{s:Shared}{D:Addr}{ys:List V}{x:V}{u:Value}{Q:Value->Shared->Prop}{E:Value->Shared->Prop}(I:Inv X pins σ H s)(hD:H D=some (.lst ys))(r:RelV x u)(hz:ys.length < sizeLine)
    (h:∀ v s',Inv X pins σ (upd H D (.lst (ys ++ [x]))) s'->Q v s'):wpAny (model X.prog X.w) X.A (call (.builtin "list.append") [.ref D,u]) Q E s:=by
  have I':=I.wish λ _ _=>False
  have q:=Ed (X:=X.wish λ _ _=>False) pins s σ H (.ref D) [x] (.ref D) [u] (λ v H'=>H'=upd H D (.lst (ys ++ [x]))) I' rfl (.cons r .nil) ⟨D,ys,x,rfl,rfl,hD,hz,rfl⟩
  refine wpAny_mono q (λ v s' ⟨v',H',I2,_,e⟩=>?_) λ _ _ z=>False.elim z
  subst e
  exact h v s' I2.unwish
theorem Np{elt tg iter:Expr}{ifs:List Expr}{scope:Scope}{pos:Pos}{loc fr:List Str}{ix:List Nat}{wi:TI}{g:TG}{tf:TT}{te:TE}(hc:X.calm=true)(S:CSc X scope fr ix)(hi:PI X tg iter wi)
    (hg:∀ s H ex,PG (cCx X (loc ++ fr) scope s H ex) tg g) (hf:∀ s H ex,PF (cCx X (loc ++ fr) scope s H ex) ifs tf) (he:∀ s H ex,PE (cCx X (loc ++ fr) scope s H ex) elt te)
    (hs:∀ x,foldedSetIterable iter X.env x=pure x:=by intro _;rfl):PE X (.ListComp elt [⟨tg,iter,ifs,0⟩] scope pos) (JF loc.length ix wi g tf te):=by
  intro pins s σ H Q I h
  rw[eval_ListComp]
  have hnames:∀ y ∈ scope.names,y.2=.local->scope.names.lookup y.1=some .local:=λ y hy e=>by
    have:=List.all_eq_true.mp S.loc y hy
    rw[e]at this
    simpa using this
  refine wpAny_comprehension_free (use:=none) rfl hs (Gn (S.clos I.ok)) S.kind hnames (thn (hi pins s σ H _ I h) λ v s1 h1=>thn h1 λ itv s2 h2=>?_)
  obtain⟨it,fp,tn,J,H2,rfl,I2,T,st2,f2,hW⟩:=h2
  refine wpAny_newObj_type ?_
  have fresh2:H2 s2.heap.objs.size=none:=I2.hok.fresh (Nat.le_refl _)
  have I3:=I2.lnew (its:=[]) (ys:=[]) (t':=s2.toks) .nil (Nat.zero_le _)
  obtain⟨W,⟨m0,w0⟩,turn⟩:=hW s2.heap.objs.size fresh2
  have lt2:∀ b ∈ fp,b < s2.heap.objs.size:=λ b hb=>let ⟨o,e,_⟩:=T.obj 0 _ st2 b hb;Heap.lt_size e
  have f3:∀ b ∈ fp,EJ X pins (upd H2 s2.heap.objs.size (.lst [])) b:=λ b hb=>⟨by rw[AI (Nat.ne_of_lt (lt2 b hb))];exact(f2 b hb).1,(f2 b hb).2⟩
  have lt3:∀ b ∈ fp,b < (s2.heap.push { cls:=.type "list",data:=.seq ([]:List Value).toArray }).objs.size:=λ b hb=>by rw[Heap.size_push];exact Nat.lt_succ_of_lt (lt2 b hb)
  generalize hs3:({ s2 with heap:=s2.heap.push { cls:=.type "list",data:=.seq ([]:List Value).toArray } }:Shared)=s3 at *
  have lt3:∀ b ∈ fp,b < s3.heap.objs.size:=by rw[<- hs3];exact lt3
  have st3:tn 0 s3.heap:=T.keep _ _ _ st2 λ b hb o e=>by rw[<- hs3];exact Heap.get?_push_of_some _ e
  refine Nx λ h' hk hn ho ha=>?_
  have I4:=Lo (loc:=loc) S I3 f3 hk hn ho ha lt3
  have fpX:∀ {H':Hp},(∀ b ∈ fp,H' b=none)->∀ b ∈ fp,EJ (cCx X (loc ++ fr) scope s3 (upd H2 s2.heap.objs.size (.lst [])) fp) [] H' b:=λ hn b hb=>
    ⟨hn b hb,(I4.ok.exf b hb).1,I4.ok.exfs b hb,.inl hb,(I4.ok.exf b hb).2,λ p hp=>by cases hp⟩
  have loop:codeAny (model X.prog X.w) X.A (.compLoop (.ListComp elt [⟨tg,iter,ifs,0⟩] scope pos) 0 (.ref it) (.ref s2.heap.objs.size) (QC scope s3.heap.objs.size X.env))
      (compPost (model X.prog X.w) X.A X.xe none (EP X pins σ Q) (.ref s2.heap.objs.size) s3.heap.objs.size) { s3 with heap:=h' }:=by
    refine IC (λ n s'=>∃ i σ' ys H',Inv (cCx X (loc ++ fr) scope s3 (upd H2 s2.heap.objs.size (.lst [])) fp) [] σ' H' s'/\tn i s'.heap/\(∀ b ∈ fp,H' b=none)/\W i n σ' ys H') ?_ m0
      ⟨0,_,[],_,I4,T.keep _ _ _ st3 λ b hb o e=>hk b o e,λ b hb=>(f3 b hb).1,w0⟩
    rintro n s5 ⟨i,σ5,ys,H5,I5,st5,fr5,w5⟩
    obtain⟨hD,w5⟩:=turn i n σ5 ys H5 w5
    rcases w5 with⟨stop,qn⟩|⟨go,hz,N,hN,step⟩
    . refine thn (T.done (cCx X (loc ++ fr) scope s3 (upd H2 s2.heap.objs.size (.lst [])) fp) rfl rfl rfl hc i [] s5 σ5 H5 _ I5 (fpX fr5) st5 stop) λ r s6 ⟨hr,I6⟩=>?_
      subst hr
      obtain⟨m,hm,_⟩:=I6.loc
      refine⟨m,hm,λ h'' hs=>?_⟩
      have neC:∀ b o,s3.heap.get? b=some o->b ≠ s3.heap.objs.size:=λ b o e=>Nat.ne_of_lt (Heap.lt_size e)
      have un:=I6.base
      refine⟨.ref s2.heap.objs.size,H5,I3.call' (s':={ s6 with heap:=h'' }) (ch:=fp) I6.os ⟨λ b o e n hb hx=>?_,λ b o e n hb hx=>?_,un.free,λ b o e hx=>?_,un.tups,un.frzs,un.tbls⟩ ?_ I6.bare ?_,rfl,qn⟩
      . exact(hs.2 b (neC b o e)).trans (un.keep b o e n hb hx)
      . obtain⟨sl,q⟩:=un.slot b o e n hb hx
        exact⟨sl,(hs.2 b (neC b o e)).trans q⟩
      . obtain⟨o',q⟩:=un.there b o e hx
        exact⟨o',(hs.2 b (neC b o e)).trans q⟩
      . intro b ob e
        have hfree:H5 s3.heap.objs.size=none:=I6.free
        refine(I6.hok b ob e).stay (λ c w' hc q=>(hs.2 c ?_).trans q) (λ _ q=>q) λ _ _ q=>q
        intro z
        rcases hc with hc|hc
        . rw[<- hc,z,hfree]at e;cases e
        . rw[z,hfree]at hc;cases hc
      . intro b hb
        obtain⟨_,a2,_,a4,a5,a6⟩:=f3 b hb
        exact⟨a4,a2,a5,a6⟩
    . refine thn (T.item (cCx X (loc ++ fr) scope s3 (upd H2 s2.heap.objs.size (.lst [])) fp) rfl rfl rfl hc i [] s5 σ5 H5 _ I5 (fpX fr5) st5 go) λ r s6 ⟨u,hr,h6⟩=>?_
      subst hr
      refine thn h6 λ _ s7 ⟨x,H7,I7,r7,y7,st7,fr7⟩=>?_
      have I7':=I7.pinned (fpX fr7) (T.obj _ _ st7)
      have keepI:∀ {σ8:St} {H8:Hp} {s8:Shared},Inv (cCx X (loc ++ fr) scope s3 (upd H2 s2.heap.objs.size (.lst [])) fp) ([] ++ Ea fp s7.heap) σ8 H8 s8->tn (i + 1) s8.heap/\∀ b ∈ fp,H8 b=none:=λ {σ8 H8 s8} I8=>by
        refine⟨T.keep _ _ _ st7 λ b hb o e=>(I8.pin (b,o) (List.mem_append_right _ (List.mem_append_right _ (Cv hb e)))).1,λ b hb=>?_⟩
        obtain⟨o,e,d⟩:=T.obj _ _ st7 b hb
        exact(I8.pin (b,o) (List.mem_append_right _ (List.mem_append_right _ (Cv hb e)))).2.1
      refine thn (hg s3 (upd H2 s2.heap.objs.size (.lst [])) fp _ s7 σ5 H7 x u _ I7' r7 (step x H7 y7)) λ _ s8 ⟨σ8,H8,I8,q8⟩=>?_
      refine thn (hf s3 (upd H2 s2.heap.objs.size (.lst [])) fp _ s8 σ8 H8 _ I8 q8) λ b s9 ⟨H9,I9,q9⟩=>?_
      cases b with
      | false=>
        rw[if_neg Bool.false_ne_true]at q9 ⊢
        obtain⟨m',hm,w9⟩:=hN _ _ _ q9
        exact⟨m',hm,i + 1,σ8,ys,H9,I9.unpinned,(keepI I9).1,(keepI I9).2,w9⟩
      | true=>
        rw[if_pos rfl]at q9 ⊢
        refine thn (he s3 (upd H2 s2.heap.objs.size (.lst [])) fp _ s9 σ8 H9 _ I9 q9) λ e10 s10 ⟨v10,H10,I10,r10,hD10,n10⟩=>?_
        obtain⟨m',hm,w10⟩:=hN _ _ _ n10
        refine QK (X:=cCx X (loc ++ fr) scope s3 (upd H2 s2.heap.objs.size (.lst [])) fp) I10 hD10 r10 hz λ _ s11 I11=>?_
        exact⟨m',hm,i + 1,σ8,_,_,I11.unpinned,(keepI I11).1,(keepI I11).2,w10⟩
  exact codeAny_compStart_list loop (T.self X.A 0 _ _ _ (T.keep _ _ _ st3 λ b hb o e=>hk b o e) loop)
end
end L2
namespace L2
open PySem PySem.Spec PyProof.Rows
section
variable{X:Cx}
end
end L2
namespace L2
open PySem PySem.Spec PyProof.Rows
mutual
noncomputable def Rep(K:PySem.W.Frag)(H:Hp):PyData->V->Prop
  | .none,v=>v=.non
  | .bool b,v=>v=.bl b
  | .int i,v=>v=.int i
  | .str x,v=>v=.str x
  | .list ds,v=>∃ a xs,v=.ref a/\SqL K H a xs/\Br K H ds xs
  | .tuple ds,v=>∃ a xs,v=.ref a/\SqT K H a xs/\Br K H ds xs
  | .dict _,_=>False
noncomputable def Br(K:PySem.W.Frag)(H:Hp):List PyData->List V->Prop
  | [],xs=>xs=[]
  | d :: ds,xs=>∃ x r,xs=x :: r/\Rep K H d x/\Br K H ds r
end
section
variable{X:Cx}{pins:List (Addr × Obj)}{σ:St}{H:Hp}{s:Shared}
mutual
theorem CL(I:Inv X pins σ H s):∀ (d:PyData) (v:V) (u:Value),Rep X.K H d v->RelV v u->∃ as,Reads s.heap u d as
  | .none,v,u,h,r=>by
    have h:v=.non:=by simpa only[Rep]using h
    subst h;cases r;exact⟨_,.none⟩
  | .bool b,v,u,h,r=>by
    have h:v=.bl b:=by simpa only[Rep]using h
    subst h;cases r;exact⟨_,.bool b⟩
  | .int i,v,u,h,r=>by
    have h:v=.int i:=by simpa only[Rep]using h
    subst h;obtain⟨t,rfl⟩:=r;exact⟨_,.int i t⟩
  | .str x,v,u,h,r=>by
    have h:v=.str x:=by simpa only[Rep]using h
    subst h;obtain⟨t,rfl⟩:=r;exact⟨_,.str x t⟩
  | .list ds,v,u,h,r=>by
    have h:∃ a xs,v=.ref a/\SqL X.K H a xs/\Br X.K H ds xs:=by simpa only[Rep]using h
    obtain⟨a,xs,rfl,hq,ha⟩:=h
    cases r
    obtain⟨its,rv,⟨o,n,e,c,_,dd⟩,hz⟩:=I.list hq
    obtain⟨as,q⟩:=DO I ds xs its ha rv
    exact⟨_,.list e c dd (by simpa using q)⟩
  | .tuple ds,v,u,h,r=>by
    have h:∃ a xs,v=.ref a/\SqT X.K H a xs/\Br X.K H ds xs:=by simpa only[Rep]using h
    obtain⟨a,xs,rfl,hq,ha⟩:=h
    cases r
    obtain⟨its,rv,⟨o,e,c,n,dd⟩,hz⟩:=I.tuple hq
    obtain⟨as,q⟩:=DO I ds xs its ha rv
    exact⟨_,.tuple e c dd (by simpa using q)⟩
  | .dict _,v,u,h,r=>by
    have h:False:=by simpa only[Rep]using h
    exact h.elim
theorem DO(I:Inv X pins σ H s):∀ (ds:List PyData) (xs:List V) (us:List Value),Br X.K H ds xs->Vals xs us->∃ as,ReadsAll s.heap us ds as
  | [],xs,us,h,r=>by
    have h:xs=[]:=by simpa only[Br]using h
    subst h;cases r;exact⟨_,.nil⟩
  | d :: ds,xs,us,h,r=>by
    have h:∃ x r,xs=x :: r/\Rep X.K H d x/\Br X.K H ds r:=by simpa only[Br]using h
    obtain⟨x,rr,rfl,h1,h2⟩:=h
    cases r with
    | cons r1 r2=>
      obtain⟨as,q1⟩:=CL I d _ _ h1 r1
      obtain⟨bs,q2⟩:=DO I ds _ _ h2 r2
      exact⟨_,.cons q1 q2⟩
end
end
structure Grow(H H':Hp):Prop where
  tup:∀ b xs,H b=some (.tup xs)->H' b=some (.tup xs)
  frz:∀ b o u,H b=some (.frz o u)->H' b=some (.frz o u)
theorem Grow.refl{H:Hp}:Grow H H:=⟨λ _ _ h=>h,λ _ _ _ h=>h⟩
noncomputable def Chg(H:Hp)(p:Addr):Prop:=(∀ xs,H p ≠ some (.tup xs))/\∀ o u,H p ≠ some (.frz o u)
theorem Grow.put{H H':Hp}{p:Addr}{o:HO}(a:Grow H H')(h:Chg H' p):Grow H (upd H' p o):=⟨λ c xs e=>by
  have q:=a.tup c xs e
  have n:c ≠ p:=λ z=>h.1 xs (by rw[<- z];exact q)
  rw[AI n];exact q,λ c z u e=>by
  have q:=a.frz c z u e
  have n:c ≠ p:=λ w=>h.2 z u (by rw[<- w];exact q)
  rw[AI n];exact q⟩
theorem Chg.lst{H:Hp}{p:Addr}{xs:List V}(h:H p=some (.lst xs)):Chg H p:=⟨(λ _ e=>by rw[h]at e;cases e),(λ _ _ e=>by rw[h]at e;cases e)⟩
theorem Grow.sq{K:PySem.W.Frag}{H H':Hp}{a:Addr}{xs:List V}(g:Grow H H')(h:SqT K H a xs):SqT K H' a xs:=by
  rcases h with(h|⟨o,h⟩)|h
  . exact .inl (.inl (g.tup _ _ h))
  . exact .inl (.inr ⟨o,g.frz _ _ _ h⟩)
  . exact .inr h
section
variable{X:Cx}
noncomputable def JO(K:PySem.W.Frag):List V->Hp->VK->Prop:=λ xs H Q=>∃ x d,xs=[x]/\Rep K H d x/\d.showable=true/\d.hasDict=false/\isDisplay d=true/\d.depth <= 30/\d.shown.length <= sizeLine/\Q (.str d.shown) H
theorem Jj(hg:X.A.guards=some [])(hu:X.A.units + 64 < cLine):BR X (.builtin "repr") (JO X.K):=by
  intro pins s σ H xs us Q I r h
  obtain⟨x,d,rfl,hr,hs,hd,hi,hdep,hsz,q⟩:=h
  obtain⟨u,rfl,ru⟩:=FX r
  obtain⟨as,hR⟩:=CL I d x u hr ru
  obtain⟨a,rfl⟩:=isRef_of_reads hR hi
  exact repr_of_reads' hR hs (PyData.noDict_hsm hd) hg (by omega) (λ _ _ e=>e) (λ h' u tk hk=>⟨.str d.shown,H,I.kept hk,⟨_,rfl⟩,q⟩) hsz
theorem G4:BR X (.builtin "repr") (λ xs H Q=>∃ i,xs=[.int i]/\i.natAbs.log2 < 1920/\Q (.str (toString i)) H):=by
  intro pins s σ H xs us Q I r h
  obtain⟨i,rfl,hi,q⟩:=h
  obtain⟨u,rfl,ru⟩:=FX r
  obtain⟨t,rfl⟩:=ru
  exact PySem.P.repr_of_int hi ⟨.str (toString i),H,I.tok _,⟨_,rfl⟩,q⟩
noncomputable def LD(K:PySem.W.Frag):R2:=λ x y H Q=>∃ d e,Rep K H d x/\Rep K H e y/\d.canLay0=true/\e.canLay0=true/\min d.depth e.depth <= 60/\Q (.bl (!PyData.eqv d e)) H
noncomputable def LI(K:PySem.W.Frag):R2:=λ x y H Q=>∃ d e,Rep K H d x/\Rep K H e y/\d.canLay0=true/\e.canLay0=true/\min d.depth e.depth <= 60/\Q (.bl (PyData.eqv d e)) H
theorem Pa(hu:X.A.units + 64 < cLine):OpR X (compareOp .NotEq) (LD X.K):=by
  intro pins s σ H x y v u Q I rx ry h
  obtain⟨d,e,h1,h2,c1,c2,hm,q⟩:=h
  obtain⟨as,q1⟩:=CL I d x v h1 rx
  obtain⟨bs,q2⟩:=CL I e y u h2 ry
  exact PySem.SeqAt.compareNe_reads q1 q2 c1 c2 (by omega) ⟨.bl _,H,I,rfl,q⟩
theorem Pb(hu:X.A.units + 64 < cLine):OpR X (compareOp .Eq) (LI X.K):=by
  intro pins s σ H x y v u Q I rx ry h
  obtain⟨d,e,h1,h2,c1,c2,hm,q⟩:=h
  obtain⟨as,q1⟩:=CL I d x v h1 rx
  obtain⟨bs,q2⟩:=CL I e y u h2 ry
  exact PySem.SeqAt.compareEq_reads q1 q2 c1 c2 (by omega) ⟨.bl _,H,I,rfl,q⟩
end
end L2
namespace L2
open PySem PySem.Spec PyProof.Rows
section
variable(K:PySem.W.Frag){X:Cx}
theorem Hy(hK:X.K=K:=by rfl):IxR X (LG K):=by subst hK;exact O9
theorem Io(hK:X.K=K:=by rfl):IxR X (LF K):=by subst hK;exact Pp
theorem Ku(hK:X.K=K:=by rfl):SlR X (JM K):=by subst hK;exact Mv
theorem Mu(hK:X.K=K:=by rfl):SlR X (JL K):=by subst hK;exact OW
theorem Ah(hu:X.A.units + 64 < cLine)(hK:X.K=K:=by rfl):OpR X (compareOp .Eq) (LI K):=by subst hK;exact Pb hu
theorem DD(hu:X.A.units + 64 < cLine)(hK:X.K=K:=by rfl):OpR X (compareOp .NotEq) (LD K):=by subst hK;exact Pa hu
theorem Ae(hK:X.K=K:=by rfl):OpR X (binaryOp .Add) (JP K):=by subst hK;exact Nr
noncomputable def Ox:List V->Hp->VK->Prop:=λ xs H Q=>∃ p ys,xs=[.ref p]/\(SqL K H p ys ∨ SqT K H p ys)/\Q (.int ys.length) H
theorem Ge(hK:X.K=K:=by rfl):BR X (.builtin "len") (Ox K):=by subst hK;exact IG
noncomputable def Dr:List V->Hp->VK->Prop:=λ xs H Q=>∃ p ys,xs=[.ref p]/\(SqL K H p ys ∨ SqT K H p ys)/\∀ l,H l=none->Q (.ref l) (upd H l (.lst ys))
theorem G5(hK:X.K=K:=by rfl):BR X (.type "list") (Dr K):=by subst hK;exact IF
noncomputable def Hf:List V->Hp->VK->Prop:=λ xs H Q=>∃ p ys,xs=[.ref p]/\((SqL K H p ys/\∀ l,H l=none->Q (.ref l) (upd H l (.tup ys))) ∨ (SqT K H p ys/\Q (.ref p) H))
theorem CC(hK:X.K=K:=by rfl):BR X (.type "tuple") (Hf K):=by subst hK;exact Go
theorem BS(hg:X.A.guards=some [])(hu:X.A.units + 64 < cLine)(hK:X.K=K:=by rfl):BR X (.builtin "repr") (JO K):=by subst hK;exact Jj hg hu
theorem LZ{tg l:Expr}{tl:TE}(hl:PE X l tl)(hK:X.K=K:=by rfl):PI X tg l (Gz K tl):=by subst hK;exact Ni hl
theorem Nh{tg l:Expr}{tl:TE}(hl:PE X l tl)(hK:X.K=K:=by rfl):PI X tg l (Jb K tl):=by subst hK;exact PN hl
theorem Nk{pos:Pos}{es:List Expr}{k:Nat}{t:TGs}{n:Nat}(hc:X.calm=true)(h:PGs X es t)(hK:X.K=K:=by rfl)
    (hn:(assignEach es X.env).length=n:=by rfl) (hst:(assignEach es X.env).findIdx? (·.1)=none:=by rfl):PG X (.Tuple es k pos) (Je K n t):=by
  subst hK
  exact PP hc h hn hst
end
section
variable(K:PySem.W.Frag){X:Cx}
end
end L2
namespace L2
open PySem PySem.Spec PyProof.Rows
section
variable(K:PySem.W.Frag){X:Cx}
end
end L2
namespace L2
open PySem PySem.Spec PyProof.Rows
section
variable{prog:Program}{w:World}{A:Around}{E:Value->Shared->Prop}{s:Shared}{l:Addr}{xs:Array (Int × Tok)}
end
section
variable(K:PySem.W.Frag){X:Cx}
end
end L2
namespace L2
open PySem PySem.Spec PyProof.Rows
structure DefAt(K:PySem.W.Frag)(mg:Str->Option Value)(x:Str)(st:Stmt)(f:Addr)(fd:FuncData)(ps:List Str):Prop where
  fn:Fun K x x st f fd
  mg:mg x=some (.ref f)
  bd:Binds K fd ps []
theorem MV{X:Cx}{j k:Nat}{f:Addr}{fd:FuncData}{ps:List Str}{sp:Sp}{x:Str}{st:Stmt}{e:Expr}{es:List Expr}{t:TA}{p pos:Pos}(F:FnOk X.prog X.w X.K X.mg X.base CX0 j f fd ps sp)(hr:Room k X.A)(D:DefAt X.K X.mg x st f fd ps)(ha:PA X (e :: es) t)
    (hjk:j <= k:=by decide) (hg:Gl X x:=by rfl) (hdb:(x == ("__debug__":Str))=false:=by decide) (he:starEach (e :: es) X.env=(false,eval e X.env) :: starEach es X.env:=by rfl) (hpl:(backTo pos (starEach es X.env)).any (·.1)=false:=by rfl) :
    PE X (.Call (.Name x p) (e :: es) [] pos) (DY sp [] E0 t):=
  Nq (F.mono hjk) hr hg D.mg D.fn.kp D.bd .nil Qq ha hdb he hpl
noncomputable def JB(i j k:Nat)(ta:TA):TS:=λ D σ H=>ta σ H λ vs H1=>∃ v w z,vs=[v,w,z]/\D.nx (((σ.set k (some z)).set j (some w)).set i (some v)) H1
theorem NZ{X:Cx}{i j k:Nat}{x y z:Str}{a b c:Expr}{ta:TA}{px py pz pt pos:Pos}{kt k2 pt2}(hc:X.calm=true)(hN:X.N.Nodup)(hi:X.N[i]? = some x)(hj:X.N[j]? = some y)(hk:X.N[k]? = some z)
    (hx:X.env.scope.names.lookup x=some .local) (hy:X.env.scope.names.lookup y=some .local) (hz:X.env.scope.names.lookup z=some .local) (ha:PA X [a,b,c] ta)
    (hw:swappedStores [.Tuple [.Name x px,.Name y py,.Name z pz] kt pt] (.Tuple [a,b,c] k2 pt2) X.env=pure (some [x,y,z]))
    (hs:swapsWithSole [.Tuple [.Name x px,.Name y py,.Name z pz] kt pt] (.Tuple [a,b,c] k2 pt2) pos.line X.env=pure false:=by rfl) :
    PS X (.Assign [.Tuple [.Name x px,.Name y py,.Name z pz] kt pt] (.Tuple [a,b,c] k2 pt2) pos) (JB i j k ta):=by
  intro pins s σ H D I h
  rw[exec_Assign_arm]
  refine wpAny_bind (wpAny_standAt ?_)
  rw[hs]
  refine wpAny_bind (wpAny_pure ?_)
  rw[if_neg (by decide)]
  refine wpAny_bind (Tuple_ (thn (ha _ pins s σ H _ I h) λ us s1 ⟨vs,H1,I1,r1,q1⟩=>?_))
  obtain⟨v,w,q,e1,q1⟩:=q1
  subst e1
  obtain⟨u1,u2,u3,rfl,rv,rw',rq⟩:∃ u1 u2 u3,us=[u1,u2,u3]/\RelV v u1/\RelV w u2/\RelV q u3:=by
    cases r1 with
    | cons p1 q1=>
      cases q1 with
      | cons p2 q2=>
        cases q2 with
        | cons p3 q3=>
          cases q3
          exact⟨_,_,_,rfl,p1,p2,p3⟩
  refine wpAny_newObj_type ?_ (by show 3 <= sizeLine;decide)
  have I2:Inv X pins σ H1 { s1 with heap:=s1.heap.push { cls:=.type "tuple",data:=.seq [u1,u2,u3].toArray } }:=I1.kept (t':=s1.toks) λ b o e=>Heap.get?_push_of_some _ e
  rw[hw]
  refine wpAny_bind (wpAny_pure ?_)
  show wpAny (model X.prog X.w) X.A (do rule "assign.swapped-stores";let items <- unpackItems (.ref s1.heap.objs.size) 3 none;assignInOrder [λ v=>bindName X.env z v,λ v=>bindName X.env y v,λ v=>bindName X.env x v] items.reverse;pure Flow.next) _ _ _
  refine wpAny_bind (wpAny_rule (wpAny_bind (unpackItems_tuple (items:=#[u1,u2,u3]) (I.ok.hd hc) (IsTup.new s1.heap _) λ h' hx'=>?_)))
  have I3:=I2.kept (h':=h') (t':=s1.toks) λ b o e=>hx' b o (Nat.ne_of_lt (Heap.lt_size e)) e
  show wpAny _ _ (assignInOrder [λ v=>bindName X.env z v,λ v=>bindName X.env y v,λ v=>bindName X.env x v] [u3,u2,u1] >>= λ _=>pure Flow.next) _ _ _
  refine wpAny_bind (assignInOrder_cons (wpAny_bindName (Bn I3 hN hk (.inl hz) rq (λ s2 I4=>?_) (.inr hz))))
  refine assignInOrder_cons (wpAny_bindName (Bn I4 hN hj (.inl hy) rw' (λ s3 I5=>?_) (.inr hy)))
  refine assignInOrder_cons (wpAny_bindName (Bn I5 hN hi (.inl hx) rv (λ s4 I6=>assignInOrder_nil (wpAny_pure ?_)) (.inr hx)))
  exact⟨_,H1,I6,q1⟩
theorem Iw:bootBuiltins "list"=some (.type "list"):=by decide +kernel
theorem bt_tuple:bootBuiltins "tuple"=some (.type "tuple"):=by decide +kernel
theorem bt_len:bootBuiltins "len"=some (.builtin "len"):=by decide +kernel
theorem bt_repr:bootBuiltins "repr"=some (.builtin "repr"):=by decide +kernel
theorem bt_min:bootBuiltins "min"=some (.builtin "min"):=by decide +kernel
theorem ne1:¬ (("cells":Str)="next"):=by decide +kernel
theorem ne2:¬ (("cells":Str)="left"):=by decide +kernel
theorem ne3:¬ (("cells":Str)="turn"):=by decide +kernel
theorem ne4:¬ (("next":Str)="left"):=by decide +kernel
theorem ne5:¬ (("next":Str)="turn"):=by decide +kernel
theorem ne6:¬ (("left":Str)="turn"):=by decide +kernel
theorem Ro:¬ (("left":Str)="next"):=by decide +kernel
theorem Rn:¬ (("turn":Str)="next"):=by decide +kernel
theorem Rm:¬ (("turn":Str)="left"):=by decide +kernel
section
variable(c:Addr)(n l u v:Int)
end
mutual
theorem FJ:∀ ns:List Int,PyData.canLayAll0 (ns.map PyData.int)=true
  | []=>by simp[PyData.canLayAll0]
  | n :: ns=>by simp[PyData.canLayAll0,PyData.canLay0,FJ ns]
end
end L2
namespace L2
open PySem PySem.Spec PyProof.Rows PySem.W
section
variable{X:Cx}{scope:Scope}{fr:List Str}{ix:List Nat}{pins:List (Addr × Obj)}{σ:St}{H:Hp}{s:Shared}{p:Str}
end
end L2
namespace L2
open PySem PySem.Spec PyProof.Rows PySem.W
noncomputable def cdF(c:Addr)(q:Str):Heap->Prop:=λ h=>h.CodeRec (.ref c) q
noncomputable def RW(H:Hp)(q:Str)(pos:Pos)(ps:Array Value):Prop:=ps=#[] ∨ ∃ c,ps=#[rawInt pos.line,rawInt pos.col,.ref c]/\H c=some (.ext (cdF c q))
section
variable{X:Cx}{pins:List (Addr × Obj)}{σ:St}{H:Hp}{s:Shared}{c P:Addr}{scope:Scope}{fr:List Str}{ix:List Nat}
end
end L2
namespace L2
open PySem PySem.Spec PyProof.Rows
inductive I where
  | non|bl (b:Bool)|int (i:Int)|str (x:Str)|tup (ds:List I)
inductive D where
  | im (i:I)|mu (n:Nat)|tm (ds:List D)|ro (ns:List Int)
inductive MO where
  | lst (ds:List D)|dic (kvs:List (Key × D))
noncomputable abbrev Hd:=List MO
noncomputable abbrev Ls:=List (Option D)
noncomputable def RoL(K:PySem.W.Frag)(H:Hp)(a:Addr)(xs:List V):Prop:=(∃ o,H a=some (.frz o (.lst xs))) ∨
  ∃ (o:Obj) (its:Array Value) (n:Nat),K.lookup a=some o/\o.cls=.type "list"/\o.dict=none/\o.data=.seq its n/\its.size <= sizeLine/\Vals xs its.toList
theorem RoL.sq{K:PySem.W.Frag}{H:Hp}{a:Addr}{xs:List V}(h:RoL K H a xs):SqL K H a xs:=by
  rcases h with⟨o,h⟩|h
  . exact .inl (.inr ⟨o,h⟩)
  . exact .inr h
theorem RoL.grow{K:PySem.W.Frag}{H H':Hp}{a:Addr}{xs:List V}(g:Grow H H')(h:RoL K H a xs):RoL K H' a xs:=by
  rcases h with⟨o,h⟩|h
  . exact .inl ⟨o,g.frz _ _ _ h⟩
  . exact .inr h
noncomputable def Bi(n:Nat):Prop:=n <= sizeLine
noncomputable def EH(n:Nat):Prop:=n < sizeLine
noncomputable def Cf(i j:Int):Prop:=(-(2 ^ 64) < i/\i < 2 ^ 64) ∨ (-(2 ^ 64) < j/\j < 2 ^ 64)
noncomputable def JR(i j:Int):Prop:=0 <= j/\j <= 1000000/\i.natAbs < 2 ^ 64
noncomputable def HA(j:Int):Prop:=0 < j/\j < 1073741824
noncomputable def CF(j:Int):Prop:=0 < j
noncomputable def GB(j:Int):Prop:=-(2 ^ 62) <= j/\j < 2 ^ 62
noncomputable def L7(i j:Int):Prop:=(-(2 ^ 62) <= i/\i < 2 ^ 62)/\-(2 ^ 62) <= j/\j < 2 ^ 62
noncomputable def MF(j:Int):Prop:=j < 2 ^ 24/\-(2 ^ 62) <= j
noncomputable def MD(i j:Int):Prop:=(-(2 ^ 62) <= i/\i < 2 ^ 62)/\(-(2 ^ 62) <= j/\j < 2 ^ 62)/\(j - i).toNat <= 2 ^ 24
noncomputable def Kv(n:Nat):Prop:=n < 1920
theorem BH{n:Nat}(h:n <= 1000000):Bi n:=Nat.le_trans h (by rw[sizeLine_eq];decide)
theorem FT{n:Nat}(h:n < 1000000):EH n:=Nat.lt_of_lt_of_le h (by rw[sizeLine_eq];decide)
theorem C4{i j:Int}(a:-1000000000000 <= i)(b:i <= 1000000000000):Cf i j:=.inl ⟨by omega,by omega⟩
theorem IW{j:Int}(a:-1000000000000 <= j)(b:j <= 1000000000000):GB j:=⟨by omega,by omega⟩
section
variable(K:PySem.W.Frag)
mutual
noncomputable def RI(H:Hp):I->V->Prop
  | .non,v=>v=.non
  | .bl b,v=>v=.bl b
  | .int i,v=>v=.int i
  | .str x,v=>v=.str x
  | .tup ds,v=>∃ a xs,v=.ref a/\SqT K H a xs/\RIs H ds xs
noncomputable def RIs(H:Hp):List I->List V->Prop
  | [],xs=>xs=[]
  | d :: ds,xs=>∃ x r,xs=x :: r/\RI H d x/\RIs H ds r
end
mutual
noncomputable def RD(ρ:List Addr)(H:Hp):D->V->Prop
  | .im i,v=>RI K H i v
  | .mu n,v=>∃ a,ρ[n]? = some a/\v=.ref a
  | .tm ds,v=>∃ a xs,v=.ref a/\SqT K H a xs/\RDs ρ H ds xs
  | .ro ns,v=>∃ a,v=.ref a/\RoL K H a (ns.map V.int)
noncomputable def RDs(ρ:List Addr)(H:Hp):List D->List V->Prop
  | [],xs=>xs=[]
  | d :: ds,xs=>∃ x r,xs=x :: r/\RD ρ H d x/\RDs ρ H ds r
end
noncomputable def RKs(ρ:List Addr)(H:Hp):List (Key × D)->List (Key × V)->Prop
  | [],xs=>xs=[]
  | d :: ds,xs=>∃ x r,xs=x :: r/\x.1=d.1/\RD K ρ H d.2 x.2/\RKs ρ H ds r
noncomputable def RC(ρ:List Addr)(H:Hp):MO->HO->Prop
  | .lst ds,o=>∃ xs,o=.lst xs/\RDs K ρ H ds xs
  | .dic kvs,o=>∃ kv,o=.dK kv/\RKs K ρ H kvs kv
noncomputable def Gs:List Value->List (Addr × Str × Pos)
  | .ref P :: .str q _ :: .int l _ :: .int c _ :: r=>(P,q,⟨l.toNat,c.toNat,0,0⟩) :: Gs r
  | _=>[]
noncomputable def QY(o:Obj):List (Addr × Str × Pos):=match o.cls,o.data with
  | .str _ _,.fields vs=>Gs vs.toList
  | _,_=>[]
noncomputable def EQ(K:PySem.W.Frag):List (Addr × Str × Pos):=match K.getLast? with
  | some p=>QY p.2
  | none=>[]
noncomputable def TabsOk(K:PySem.W.Frag)(H:Hp):Prop:=∀ x ∈ EQ K,∃ ps,H x.1=some (.tbl ps)/\RW H x.2.1 x.2.2 ps
structure RH(ρ:List Addr)(H:Hp)(hd:Hd):Prop where
  len:ρ.length=hd.length
  nd:ρ.Nodup
  tabs:TabsOk K H
  ob:∀ (n:Nat) (o:MO) (a:Addr),hd[n]? = some o->ρ[n]? = some a->∃ ho,H a=some ho/\RC K ρ H o ho
structure RL(ρ:List Addr)(H:Hp)(ls:Ls)(σ:St):Prop where
  len:ls.length=σ.length
  ob:∀ (i:Nat) (d:D),ls[i]? = some (some d)->∃ v,σ[i]? = some (some v)/\RD K ρ H d v
end
structure Ext(ρ:List Addr)(H:Hp)(ρ':List Addr)(H':Hp):Prop where
  pre:∃ r,ρ'=ρ ++ r/\∀ b ∈ r,H b=none
  keep:∀ b o,H b=some o->b ∉ ρ->(∀ ps,o ≠ .tbl ps)->H' b=some o
  tab:∀ b ps,H b=some (.tbl ps)->∃ ps',H' b=some (.tbl ps')
theorem nt{o:HO}(h:match o with | .tbl _=>False|_=>True:=by trivial):∀ ps,o ≠ .tbl ps:=λ ps e=>by subst e;exact h
theorem TabsOk.upd{K:PySem.W.Frag}{H:Hp}(t:TabsOk K H){a:Addr}{ho:HO}(h1:∀ ps,H a ≠ some (.tbl ps))(h2:∀ φ,H a ≠ some (.ext φ)):TabsOk K (upd H a ho):=λ x hx=>by
  obtain⟨ps,e,g⟩:=t x hx
  have ne:x.1 ≠ a:=λ z=>h1 ps (by rw[<- z];exact e)
  refine⟨ps,by rw[AI ne];exact e,?_⟩
  rcases g with g|⟨c,g1,g2⟩
  . exact .inl g
  . have nc:c ≠ a:=λ z=>h2 _ (by rw[<- z];exact g2)
    exact .inr ⟨c,g1,by rw[AI nc];exact g2⟩
section
variable{K:PySem.W.Frag}{ρ ρ' ρ1 ρ2:List Addr}{H H' H1 H2:Hp}{hd hd' hd1:Hd}
mutual
theorem RI.grow(g:Grow H H'):∀ {i:I} {v:V},RI K H i v->RI K H' i v
  | .non,v,h=>by simpa only[RI]using h
  | .bl b,v,h=>by simpa only[RI]using h
  | .int b,v,h=>by simpa only[RI]using h
  | .str b,v,h=>by simpa only[RI]using h
  | .tup ds,v,h=>by
    simp only[RI]at h ⊢
    obtain⟨a,xs,e,q,r⟩:=h
    exact⟨a,xs,e,g.sq q,RIs.grow g r⟩
theorem RIs.grow(g:Grow H H'):∀ {i:List I} {v:List V},RIs K H i v->RIs K H' i v
  | [],v,h=>by simpa only[RIs]using h
  | d :: ds,v,h=>by
    simp only[RIs]at h ⊢
    obtain⟨x,r,e,q,z⟩:=h
    exact⟨x,r,e,q.grow g,RIs.grow g z⟩
end
theorem RH.mut(h:RH K ρ H hd){a:Addr}(m:a ∈ ρ):(∃ xs,H a=some (.lst xs)) ∨ ∃ kv,H a=some (.dK kv):=by
  obtain⟨n,e⟩:=List.mem_iff_getElem?.mp m
  have hn:n < hd.length:=by rw[<- h.len];exact(List.getElem?_eq_some_iff.mp e).1
  obtain⟨ho,e1,e2⟩:=h.ob n hd[n] a (by simp[hn]) e
  cases q:hd[n]with
  | lst ds=>rw[q]at e2;obtain⟨xs,rfl,_⟩:=e2;exact .inl ⟨xs,e1⟩
  | dic ds=>rw[q]at e2;obtain⟨xs,rfl,_⟩:=e2;exact .inr ⟨xs,e1⟩
theorem RH.tup_out(h:RH K ρ H hd){a:Addr}{xs:List V}(e:H a=some (.tup xs)):a ∉ ρ:=λ m=>by
  rcases h.mut m with⟨y,z⟩|⟨y,z⟩ <;> (rw[e]at z;cases z)
theorem RH.frz_out(h:RH K ρ H hd){a:Addr}{o:Obj}{u:HO}(e:H a=some (.frz o u)):a ∉ ρ:=λ m=>by
  rcases h.mut m with⟨y,z⟩|⟨y,z⟩ <;> (rw[e]at z;cases z)
theorem Ext.grow(e:Ext ρ H ρ' H')(h:RH K ρ H hd):Grow H H':=⟨λ b xs q=>e.keep b _ q (h.tup_out q) nt,λ b o u q=>e.keep b _ q (h.frz_out q) nt⟩
theorem Ext.refl:Ext ρ H ρ H:=⟨⟨[],by simp,by simp⟩,λ _ _ h _ _=>h,λ _ ps h=>⟨ps,h⟩⟩
theorem Ext.trans(e:Ext ρ H ρ1 H1)(h0:RH K ρ1 H1 hd1)(e2:Ext ρ1 H1 ρ2 H2):Ext ρ H ρ2 H2:=by
  obtain⟨r1,rfl,f1⟩:=e.pre
  obtain⟨r2,rfl,f2⟩:=e2.pre
  refine⟨⟨r1 ++ r2,by simp,λ b m=>?_⟩,λ b o q n t=>?_,λ b ps q=>?_⟩
  . rcases List.mem_append.mp m with m|m
    . exact f1 b m
    . have z:=f2 b m
      cases q:H b with
      | none=>rfl
      | some o=>
        by_cases n:b ∈ ρ
        . rcases h0.mut (List.mem_append_left r1 n)with⟨y,w⟩|⟨y,w⟩ <;> (rw[z]at w;cases w)
        . by_cases t:∃ ps,o=.tbl ps
          . obtain⟨ps,rfl⟩:=t
            obtain⟨ps',this⟩:=e.tab b ps q
            rw[z]at this;cases this
          . have:=e.keep b o q n λ ps y=>t ⟨ps,y⟩
            rw[z]at this;cases this
  . refine e2.keep b o (e.keep b o q n t) (λ m=>?_) t
    rcases List.mem_append.mp m with m|m
    . exact n m
    . have:=f1 b m;rw[q]at this;cases this
  . obtain⟨ps',q'⟩:=e.tab b ps q
    exact e2.tab b ps' q'
mutual
theorem RD.mono(g:Grow H H')(r:List Addr):∀ {d:D} {v:V},RD K ρ H d v->RD K (ρ ++ r) H' d v
  | .im i,v,h=>by simp only[RD]at h ⊢;exact h.grow g
  | .mu n,v,h=>by
    simp only[RD]at h ⊢
    obtain⟨a,e,q⟩:=h
    exact⟨a,by rw[List.getElem?_append_left (List.getElem?_eq_some_iff.mp e).1];exact e,q⟩
  | .tm ds,v,h=>by
    simp only[RD]at h ⊢
    obtain⟨a,xs,e,q,z⟩:=h
    exact⟨a,xs,e,g.sq q,RDs.mono g r z⟩
  | .ro ns,v,h=>by
    simp only[RD]at h ⊢
    obtain⟨a,e,q⟩:=h
    exact⟨a,e,q.grow g⟩
theorem RDs.mono(g:Grow H H')(r:List Addr):∀ {d:List D} {v:List V},RDs K ρ H d v->RDs K (ρ ++ r) H' d v
  | [],v,h=>by simpa only[RDs]using h
  | d :: ds,v,h=>by
    simp only[RDs]at h ⊢
    obtain⟨x,r',e,q,z⟩:=h
    exact⟨x,r',e,q.mono g r,RDs.mono g r z⟩
end
theorem RKs.mono(g:Grow H H')(r:List Addr):∀ {d:List (Key × D)} {v:List (Key × V)},RKs K ρ H d v->RKs K (ρ ++ r) H' d v
  | [],v,h=>by simpa only[RKs]using h
  | d :: ds,v,h=>by
    simp only[RKs]at h ⊢
    obtain⟨x,r',e,q1,q,z⟩:=h
    exact⟨x,r',e,q1,q.mono g r,RKs.mono g r z⟩
theorem RC.mono(g:Grow H H')(r:List Addr){o:MO}{ho:HO}(h:RC K ρ H o ho):RC K (ρ ++ r) H' o ho:=by
  cases o with
  | lst ds=>obtain⟨xs,e,q⟩:=h;exact⟨xs,e,q.mono g r⟩
  | dic ds=>obtain⟨xs,e,q⟩:=h;exact⟨xs,e,q.mono g r⟩
theorem RD.ext(h:RH K ρ H hd)(e:Ext ρ H ρ' H'){d:D}{v:V}(q:RD K ρ H d v):RD K ρ' H' d v:=by
  obtain⟨r,rfl,_⟩:=e.pre
  exact q.mono (e.grow h) r
theorem RDs.ext(h:RH K ρ H hd)(e:Ext ρ H ρ' H'){d:List D}{v:List V}(q:RDs K ρ H d v):RDs K ρ' H' d v:=by
  obtain⟨r,rfl,_⟩:=e.pre
  exact q.mono (e.grow h) r
theorem RL.ext(h:RH K ρ H hd)(e:Ext ρ H ρ' H'){ls:Ls}{σ:St}(q:RL K ρ H ls σ):RL K ρ' H' ls σ:=
  ⟨q.len,λ i d z=>let ⟨v,a,b⟩:=q.ob i d z;⟨v,a,b.ext h e⟩⟩
theorem RDs.len:∀ {ds:List D} {xs:List V},RDs K ρ H ds xs->xs.length=ds.length
  | [],xs,h=>by simp only[RDs]at h;rw[h];rfl
  | d :: ds,xs,h=>by
    simp only[RDs]at h
    obtain⟨x,r,rfl,_,z⟩:=h
    simp[RDs.len z]
theorem RDs.get:∀ {ds:List D} {xs:List V} {i:Nat} {d:D},RDs K ρ H ds xs->ds[i]? = some d->∃ x,xs[i]? = some x/\RD K ρ H d x
  | [],xs,i,d,h,e=>by simp at e
  | d :: ds,xs,0,e,h,q=>by
    simp only[RDs]at h
    obtain⟨x,r,rfl,z,_⟩:=h
    simp at q;subst q
    exact⟨x,rfl,z⟩
  | d :: ds,xs,i + 1,e,h,q=>by
    simp only[RDs]at h
    obtain⟨x,r,rfl,_,z⟩:=h
    obtain⟨y,a,b⟩:=RDs.get (i:=i) z (by simpa using q)
    exact⟨y,by simpa using a,b⟩
theorem RDs.nil:RDs K ρ H [] []:=by simp[RDs]
theorem RDs.cons{d:D}{v:V}{ds:List D}{vs:List V}(h:RD K ρ H d v)(t:RDs K ρ H ds vs):RDs K ρ H (d :: ds) (v :: vs):=by
  simp only[RDs];exact⟨v,vs,rfl,h,t⟩
theorem RDs.app:∀ {ds es:List D} {xs ys:List V},RDs K ρ H ds xs->RDs K ρ H es ys->RDs K ρ H (ds ++ es) (xs ++ ys)
  | [],es,xs,ys,h,t=>by simp only[RDs]at h;subst h;simpa using t
  | d :: ds,es,xs,ys,h,t=>by
    simp only[RDs]at h
    obtain⟨x,r,rfl,z,q⟩:=h
    simp only[List.cons_append]
    exact .cons z (q.app t)
theorem RDs.set:∀ {ds:List D} {xs:List V} {d:D} {v:V} (i:Nat),RDs K ρ H ds xs->RD K ρ H d v->RDs K ρ H (ds.set i d) (xs.set i v)
  | [],xs,d,v,i,h,t=>by simp only[RDs]at h;subst h;simp[RDs]
  | d :: ds,xs,e,v,0,h,t=>by
    simp only[RDs]at h
    obtain⟨x,r,rfl,z,q⟩:=h
    simpa using RDs.cons t q
  | d :: ds,xs,e,v,i + 1,h,t=>by
    simp only[RDs]at h
    obtain⟨x,r,rfl,z,q⟩:=h
    simpa using RDs.cons z (q.set i t)
theorem RDs.drop:∀ {ds:List D} {xs:List V} (n:Nat),RDs K ρ H ds xs->RDs K ρ H (ds.drop n) (xs.drop n)
  | ds,xs,0,h=>by simpa using h
  | [],xs,n + 1,h=>by simp only[RDs]at h;subst h;simp[RDs]
  | d :: ds,xs,n + 1,h=>by
    simp only[RDs]at h
    obtain⟨x,r,rfl,z,q⟩:=h
    simpa using q.drop n
theorem RDs.take:∀ {ds:List D} {xs:List V} (n:Nat),RDs K ρ H ds xs->RDs K ρ H (ds.take n) (xs.take n)
  | ds,xs,0,h=>by simp[RDs]
  | [],xs,n + 1,h=>by simp only[RDs]at h;subst h;simp[RDs]
  | d :: ds,xs,n + 1,h=>by
    simp only[RDs]at h
    obtain⟨x,r,rfl,z,q⟩:=h
    simpa using RDs.cons z (q.take n)
theorem RIs.ds:∀ {is:List I} {xs:List V},RIs K H is xs->RDs K ρ H (is.map D.im) xs
  | [],xs,h=>by simpa only[RIs,RDs,List.map_nil]using h
  | i :: is,xs,h=>by
    simp only[RIs]at h
    obtain⟨x,r,rfl,z,q⟩:=h
    exact .cons (by simpa only[RD]using z) q.ds
theorem RDs.is:∀ {is:List I} {xs:List V},RDs K ρ H (is.map D.im) xs->RIs K H is xs
  | [],xs,h=>by simpa only[RIs,RDs,List.map_nil]using h
  | i :: is,xs,h=>by
    simp only[List.map_cons,RDs]at h
    obtain⟨x,r,rfl,z,q⟩:=h
    simp only[RIs]
    exact⟨x,r,rfl,by simpa only[RD]using z,q.is⟩
theorem RH.put(h:RH K ρ H hd){n:Nat}{a:Addr}(hn:ρ[n]? = some a){o:MO}{ho:HO}(c:RC K ρ H o ho):RH K ρ (upd H a ho) (hd.set n o)/\Ext ρ H ρ (upd H a ho):=by
  have ha:=h.mut (List.mem_of_getElem? hn)
  have n1:∀ ps,H a ≠ some (.tbl ps):=λ ps e=>by rcases ha with⟨y,z⟩|⟨y,z⟩ <;> (rw[e]at z;cases z)
  have n2:∀ φ,H a ≠ some (.ext φ):=λ ps e=>by rcases ha with⟨y,z⟩|⟨y,z⟩ <;> (rw[e]at z;cases z)
  have ex:Ext ρ H ρ (upd H a ho):=⟨⟨[],by simp,by simp⟩,λ b o q m _=>by
    have:b ≠ a:=λ z=>m (by rw[z];exact List.mem_of_getElem? hn)
    rw[AI this];exact q,λ b ps q=>⟨ps,(AI (show b ≠ a from λ z=>n1 ps (by rw[<- z];exact q))).trans q⟩⟩
  have gr:=ex.grow h
  refine⟨⟨by simp[h.len],h.nd,h.tabs.upd n1 n2,λ m o' b e1 e2=>?_⟩,ex⟩
  have hm:m < hd.length:=by rw[<- h.len];exact(List.getElem?_eq_some_iff.mp e2).1
  by_cases hmn:m=n
  . subst hmn
    rw[hn]at e2;cases e2
    rw[List.getElem?_set_self hm]at e1
    cases e1
    exact⟨ho,AQ,by simpa using c.mono gr []⟩
  . rw[List.getElem?_set_ne (λ z=>hmn z.symm)]at e1
    obtain⟨ho',q1,q2⟩:=h.ob m o' b e1 e2
    have:b ≠ a:=λ z=>by
      subst z
      have l1:=(List.getElem?_eq_some_iff.mp e2).1
      have l2:=(List.getElem?_eq_some_iff.mp hn).1
      exact hmn ((List.getElem?_inj l1 h.nd).mp (e2.trans hn.symm))
    exact⟨ho',by rw[AI this];exact q1,by simpa using q2.mono gr []⟩
theorem RH.lst(h:RH K ρ H hd){n:Nat}{a:Addr}{ds:List D}(hn:ρ[n]? = some a)(e:hd[n]? = some (.lst ds)):∃ xs,H a=some (.lst xs)/\RDs K ρ H ds xs:=by
  obtain⟨ho,q,xs,rfl,r⟩:=h.ob n _ a e hn
  exact⟨xs,q,r⟩
theorem RH.dic(h:RH K ρ H hd){n:Nat}{a:Addr}{ds:List (Key × D)}(hn:ρ[n]? = some a)(e:hd[n]? = some (.dic ds)):∃ xs,H a=some (.dK xs)/\RKs K ρ H ds xs:=by
  obtain⟨ho,q,xs,rfl,r⟩:=h.ob n _ a e hn
  exact⟨xs,q,r⟩
theorem RH.hid(h:RH K ρ H hd){a:Addr}(ha:H a=none){ho:HO}:RH K ρ (upd H a ho) hd/\Ext ρ H ρ (upd H a ho):=by
  have out:a ∉ ρ:=λ m=>by rcases h.mut m with⟨y,z⟩|⟨y,z⟩ <;> (rw[ha]at z;cases z)
  have ex:Ext ρ H ρ (upd H a ho):=⟨⟨[],by simp,by simp⟩,λ b o q n _=>by rw[AI (Aa q ha)];exact q,λ b ps q=>⟨ps,by rw[AI (Aa q ha)];exact q⟩⟩
  have gr:=ex.grow h
  refine⟨⟨h.len,h.nd,h.tabs.upd (by simp[ha]) (by simp[ha]),λ m o' b e1 e2=>?_⟩,ex⟩
  obtain⟨ho',q1,q2⟩:=h.ob m o' b e1 e2
  exact⟨ho',by rw[AI (Aa q1 ha)];exact q1,by simpa using q2.mono gr []⟩
theorem RH.hput(h:RH K ρ H hd){a:Addr}(out:a ∉ ρ){xs:List V}{ho:HO}(hl:H a=some (.lst xs)):RH K ρ (upd H a ho) hd:=by
  have gr:Grow H (upd H a ho):=Grow.refl.put (.lst hl)
  refine⟨h.len,h.nd,h.tabs.upd (by simp[hl]) (by simp[hl]),λ m o' b e1 e2=>?_⟩
  obtain⟨ho',q1,q2⟩:=h.ob m o' b e1 e2
  have:b ≠ a:=λ z=>out (by rw[<- z];exact List.mem_of_getElem? e2)
  exact⟨ho',by rw[AI this];exact q1,by simpa using q2.mono gr []⟩
end
end L2
namespace L2
open PySem PySem.Spec PyProof.Rows
noncomputable abbrev ME:=Ls->Hd->Option (D × Hd)
noncomputable abbrev MT:=Ls->Hd->Option (Bool × Hd)
noncomputable abbrev MA:=Ls->Hd->Option (List D × Hd)
inductive Fl where
  | nx (ls:Ls)|rt (d:D)|bk (ls:Ls)|ct (ls:Ls)
noncomputable abbrev MS:=Ls->Hd->Option (Fl × Hd)
section
variable(K:PySem.W.Frag)
noncomputable def RE(t:TE)(m:ME):Prop:=∀ (ρ:List Addr) (σ:St) (H:Hp) (hd:Hd) (ls:Ls) (Q:VK) (d:D) (hd':Hd),RH K ρ H hd->RL K ρ H ls σ->m ls hd=some (d,hd') ->
  (∀ ρ' H' v,Ext ρ H ρ' H'->RH K ρ' H' hd'->RD K ρ' H' d v->Q v H')->t σ H Q
noncomputable def RT(t:TT)(m:MT):Prop:=∀ (ρ:List Addr) (σ:St) (H:Hp) (hd:Hd) (ls:Ls) (Q:Bool->Hp->Prop) (d:Bool) (hd':Hd),RH K ρ H hd->RL K ρ H ls σ->m ls hd=some (d,hd') ->
  (∀ ρ' H',Ext ρ H ρ' H'->RH K ρ' H' hd'->Q d H')->t σ H Q
noncomputable def RA(t:TA)(m:MA):Prop:=∀ (ρ:List Addr) (σ:St) (H:Hp) (hd:Hd) (ls:Ls) (Q:List V->Hp->Prop) (d:List D) (hd':Hd),RH K ρ H hd->RL K ρ H ls σ->m ls hd=some (d,hd') ->
  (∀ ρ' H' v,Ext ρ H ρ' H'->RH K ρ' H' hd'->RDs K ρ' H' d v->Q v H')->t σ H Q
noncomputable def RN(t:TE)(m:MA):Prop:=∀ (ρ:List Addr) (σ:St) (H:Hp) (hd:Hd) (ls:Ls) (Q:VK) (d:List D) (hd':Hd),RH K ρ H hd->RL K ρ H ls σ->m ls hd=some (d,hd') ->
  (∀ ρ' H' a xs,Ext ρ H ρ' H'->RH K ρ' H' hd'->H a=none->a ∉ ρ'->H' a=some (.lst xs)->RDs K ρ' H' d xs->Q (.ref a) H')->t σ H Q
noncomputable def RV(E:Ends)(ρ:List Addr)(H:Hp):Fl->Prop
  | .nx ls=>∀ σ,RL K ρ H ls σ->E.nx σ H
  | .bk ls=>∀ σ,RL K ρ H ls σ->E.bk σ H
  | .ct ls=>∀ σ,RL K ρ H ls σ->E.ct σ H
  | .rt d=>∀ v,RD K ρ H d v->E.rt v H
noncomputable def RS(t:TS)(m:MS):Prop:=∀ (ρ:List Addr) (σ:St) (H:Hp) (hd:Hd) (ls:Ls) (E:Ends) (f:Fl) (hd':Hd),RH K ρ H hd->RL K ρ H ls σ->m ls hd=some (f,hd') ->
  (∀ ρ' H',Ext ρ H ρ' H'->RH K ρ' H' hd'->RV K E ρ' H' f)->t E σ H
noncomputable def RB(r:R2)(f:D->D->Hd->Option (D × Hd)):Prop:=∀ (ρ:List Addr) (H:Hp) (hd:Hd) (d e:D) (v u:V) (Q:VK) (z:D) (hd':Hd),RH K ρ H hd->RD K ρ H d v->RD K ρ H e u->f d e hd=some (z,hd') ->
  (∀ ρ' H' w,Ext ρ H ρ' H'->RH K ρ' H' hd'->RD K ρ' H' z w->Q w H')->r v u H Q
noncomputable def RF(r:List V->Hp->VK->Prop)(f:List D->Hd->Option (D × Hd)):Prop:=∀ (ρ:List Addr) (H:Hp) (hd:Hd) (ds:List D) (vs:List V) (Q:VK) (z:D) (hd':Hd),RH K ρ H hd->RDs K ρ H ds vs->f ds hd=some (z,hd') ->
  (∀ ρ' H' w,Ext ρ H ρ' H'->RH K ρ' H' hd'->RD K ρ' H' z w->Q w H')->r vs H Q
noncomputable def RG(tp:Bool)(r:List V->Hp->VK->Prop)(g:List D->Option D):Prop:=∀ (ρ:List Addr) (H:Hp) (hd:Hd) (a:Addr) (xs:List V) (ds:List D) (Q:VK) (z:D),RH K ρ H hd->(SqL K H a xs ∨ (tp=true/\SqT K H a xs))->RDs K ρ H ds xs->g ds=some z ->
  (∀ H' w,Ext ρ H ρ H'->RH K ρ H' hd->RD K ρ H' z w->Q w H')->r [.ref a] H Q
end
structure QE(K:PySem.W.Frag)(X:Cx)(e:Expr)(t:TE)(m:ME):Prop where
  p:PE X e t
  r:RE K t m
structure QT(K:PySem.W.Frag)(X:Cx)(e:Expr)(t:TT)(m:MT):Prop where
  p:PT X e t
  r:RT K t m
structure QW(K:PySem.W.Frag)(X:Cx)(e:Expr)(t:TT)(m:MT):Prop where
  p:PW X e t
  r:RT K t m
structure QA(K:PySem.W.Frag)(X:Cx)(e:List Expr)(t:TA)(m:MA):Prop where
  p:PA X e t
  r:RA K t m
structure QN(K:PySem.W.Frag)(X:Cx)(e:Expr)(t:TE)(m:MA):Prop where
  p:PE X e t
  r:RN K t m
structure QS(K:PySem.W.Frag)(X:Cx)(e:Stmt)(t:TS)(m:MS):Prop where
  p:PS X e t
  r:RS K t m
structure QSs(K:PySem.W.Frag)(X:Cx)(e:List Stmt)(t:TS)(m:MS):Prop where
  p:PSs X e t
  r:RS K t m
noncomputable def Ag:D->Option (List D)
  | .im (.tup is)=>some (is.map .im)
  | .tm ds=>some ds
  | _=>none
noncomputable def B9(hd:Hd):D->Option (List D)
  | .mu n=>match hd[n]? with
    | some (.lst ds)=>some ds
    | _=>none
  | .ro ns=>some (ns.map λ n=>.im (.int n))
  | _=>none
noncomputable def BF(hd:Hd)(d:D):Option (List D):=match Ag d with
  | some ds=>some ds
  | none=>B9 hd d
noncomputable def Bb:List D->Option (List I)
  | []=>some []
  | .im i :: r=>(Bb r).map (i :: ·)
  | _ :: _=>none
noncomputable def BP(ds:List D):D:=match Bb ds with
  | some is=>.im (.tup is)
  | none=>.tm ds
noncomputable def FE:List D->Option (List Int)
  | []=>some []
  | .im (.int i) :: r=>(FE r).map (i :: ·)
  | _ :: _=>none
noncomputable def Jl:List D->Option (List Bool)
  | []=>some []
  | .im (.bl i) :: r=>(Jl r).map (i :: ·)
  | _ :: _=>none
section
variable{K:PySem.W.Frag}{ρ ρ':List Addr}{H H':Hp}{hd hd':Hd}
theorem EI:∀ {ds:List D} {is:List I},Bb ds=some is->ds=is.map .im
  | [],is,h=>by simp[Bb]at h;subst h;rfl
  | .im i :: r,is,h=>by
    simp only[Bb,Option.map_eq_some_iff]at h
    obtain⟨js,e,rfl⟩:=h
    simp[EI e]
  | .mu _ :: _,is,h=>by simp[Bb]at h
  | .tm _ :: _,is,h=>by simp[Bb]at h
  | .ro _ :: _,is,h=>by simp[Bb]at h
@[simp] theorem Kj(is:List I):Bb (is.map .im)=some is:=by induction is <;> simp_all [Bb]
theorem GQ:∀ {ns:List Int},RDs K ρ H (ns.map λ i=>.im (.int i)) (ns.map V.int)
  | []=>by simp[RDs]
  | n :: ns=>by simp only[List.map_cons];exact .cons (by simp[RD,RI]) GQ
theorem RD.tup{d:D}{v:V}{ds:List D}(h:RD K ρ H d v)(e:Ag d=some ds):∃ a xs,v=.ref a/\SqT K H a xs/\RDs K ρ H ds xs:=by
  cases d with
  | im i=>
    cases i with
    | tup is=>
      simp only[Ag,Option.some.injEq]at e
      subst e
      simp only[RD,RI]at h
      obtain⟨a,xs,rfl,q,r⟩:=h
      exact⟨a,xs,rfl,q,r.ds⟩
    | _=>simp[Ag]at e
  | tm es=>
    simp only[Ag,Option.some.injEq]at e
    subst e
    simpa only[RD]using h
  | _=>simp[Ag]at e
theorem RD.lst{d:D}{v:V}{ds:List D}(hR:RH K ρ H hd)(h:RD K ρ H d v)(e:B9 hd d=some ds):∃ a xs,v=.ref a/\SqL K H a xs/\RDs K ρ H ds xs:=by
  cases d with
  | mu n=>
    simp only[B9]at e
    simp only[RD]at h
    obtain⟨a,hn,rfl⟩:=h
    split at e
    . next q=>
      cases e
      obtain⟨xs,e1,e2⟩:=hR.lst hn q
      exact⟨a,xs,rfl,SqL.of e1,e2⟩
    . cases e
  | ro ns=>
    simp only[B9,Option.some.injEq]at e
    subst e
    simp only[RD]at h
    obtain⟨a,rfl,q⟩:=h
    exact⟨a,_,rfl,q.sq,GQ⟩
  | _=>simp[B9]at e
theorem RD.seq{d:D}{v:V}{ds:List D}(hR:RH K ρ H hd)(h:RD K ρ H d v)(e:BF hd d=some ds):∃ a xs,v=.ref a/\(SqL K H a xs ∨ SqT K H a xs)/\RDs K ρ H ds xs:=by
  unfold BF at e
  split at e
  . next q=>
    cases e
    obtain⟨a,xs,e1,e2,e3⟩:=h.tup q
    exact⟨a,xs,e1,.inr e2,e3⟩
  . obtain⟨a,xs,e1,e2,e3⟩:=h.lst hR e
    exact⟨a,xs,e1,.inl e2,e3⟩
theorem CY{ds:List D}{a:Addr}{xs:List V}(q:SqT K H a xs)(r:RDs K ρ H ds xs):RD K ρ H (BP ds) (.ref a):=by
  unfold BP
  split
  . next e=>
    rw[EI e]at r
    simp only[RD,RI]
    exact⟨a,xs,rfl,q,r.is⟩
  . simp only[RD]
    exact⟨a,xs,rfl,q,r⟩
noncomputable def A0(i:Nat):ME:=λ ls hd=>match ls[i]? with
  | some (some d)=>some (d,hd)
  | _=>none
theorem On{i:Nat}:RE K (J7 i) (A0 i):=by
  intro ρ σ H hd ls Q d hd' hR hL hm hQ
  unfold A0 at hm
  split at hm
  . next e=>
    cases hm
    obtain⟨v,e1,e2⟩:=hL.ob i _ e
    exact⟨v,e1,hQ ρ H v .refl hR e2⟩
  . cases hm
noncomputable def mC(i:I):ME:=λ _ hd=>some (.im i,hd)
theorem LB{v:V}{i:I}(h:∀ H,RI K H i v):RE K (tC v) (mC i):=by
  intro ρ σ H hd ls Q d hd' hR hL hm hQ
  cases hm
  exact hQ ρ H v .refl hR (by simpa only[RD]using h H)
noncomputable def mOp(f:D->D->Hd->Option (D × Hd))(ma mb:ME):ME:=λ ls hd=>(ma ls hd).bind λ p=>(mb ls p.2).bind λ q=>f p.1 q.1 q.2
theorem JH{r:R2}{f:D->D->Hd->Option (D × Hd)}{ta tb:TE}{ma mb:ME}(hr:RB K r f)(ha:RE K ta ma)(hb:RE K tb mb):RE K (tOp r ta tb) (mOp f ma mb):=by
  intro ρ σ H hd ls Q d hd' hR hL hm hQ
  obtain⟨⟨d1,h1⟩,e1,hm⟩:=Option.bind_eq_some_iff.mp hm
  obtain⟨⟨d2,h2⟩,e2,hm⟩:=Option.bind_eq_some_iff.mp hm
  refine ha ρ σ H hd ls _ d1 h1 hR hL e1 λ ρ1 H1 v1 x1 R1 r1=>?_
  refine hb ρ1 σ H1 h1 ls _ d2 h2 R1 (hL.ext hR x1) e2 λ ρ2 H2 v2 x2 R2 r2=>?_
  exact hr ρ2 H2 h2 d1 d2 v1 v2 Q d hd' R2 (r1.ext R1 x2) r2 hm λ ρ' H' w x3 R3 r3=>hQ ρ' H' w ((x1.trans R1 x2).trans R2 x3) R3 r3
noncomputable def GN(ta tb:MT):MT:=λ ls hd=>(ta ls hd).bind λ p=>if p.1=true then tb ls p.2 else some (false,p.2)
noncomputable def mOr(ta tb:MT):MT:=λ ls hd=>(ta ls hd).bind λ p=>if p.1=true then some (true,p.2)else tb ls p.2
noncomputable def GK(ta:MT):MT:=λ ls hd=>(ta ls hd).bind λ p=>some (!p.1,p.2)
theorem Ob{ta tb:TT}{ma mb:MT}(ha:RT K ta ma)(hb:RT K tb mb):RT K (Kt ta tb) (GN ma mb):=by
  intro ρ σ H hd ls Q d hd' hR hL hm hQ
  obtain⟨⟨d1,h1⟩,e1,hm⟩:=Option.bind_eq_some_iff.mp hm
  refine ha ρ σ H hd ls _ d1 h1 hR hL e1 λ ρ1 H1 x1 R1=>?_
  cases d1 with
  | true=>
    rw[if_pos rfl]at hm ⊢
    exact hb ρ1 σ H1 h1 ls Q d hd' R1 (hL.ext hR x1) hm λ ρ2 H2 x2 R2=>hQ ρ2 H2 (x1.trans R1 x2) R2
  | false=>
    rw[if_neg Bool.false_ne_true]at hm ⊢
    cases hm
    exact hQ ρ1 H1 x1 R1
theorem Qc{ta tb:TT}{ma mb:MT}(ha:RT K ta ma)(hb:RT K tb mb):RT K (tOr ta tb) (mOr ma mb):=by
  intro ρ σ H hd ls Q d hd' hR hL hm hQ
  obtain⟨⟨d1,h1⟩,e1,hm⟩:=Option.bind_eq_some_iff.mp hm
  refine ha ρ σ H hd ls _ d1 h1 hR hL e1 λ ρ1 H1 x1 R1=>?_
  cases d1 with
  | true=>
    rw[if_pos rfl]at hm ⊢
    cases hm
    exact hQ ρ1 H1 x1 R1
  | false=>
    rw[if_neg Bool.false_ne_true]at hm ⊢
    exact hb ρ1 σ H1 h1 ls Q d hd' R1 (hL.ext hR x1) hm λ ρ2 H2 x2 R2=>hQ ρ2 H2 (x1.trans R1 x2) R2
theorem Oa{ta:TT}{ma:MT}(ha:RT K ta ma):RT K (Kq ta) (GK ma):=by
  intro ρ σ H hd ls Q d hd' hR hL hm hQ
  obtain⟨⟨d1,h1⟩,e1,hm⟩:=Option.bind_eq_some_iff.mp hm
  cases hm
  exact ha ρ σ H hd ls _ d1 h1 hR hL e1 λ ρ1 H1 x1 R1=>hQ ρ1 H1 x1 R1
open Classical in
noncomputable def Cs(hd:Hd):D->Option Bool
  | .im .non=>some false
  | .im (.bl b)=>some b
  | .im (.int i)=>some (i != 0)
  | .im (.str x)=>if Bi x.length then some ((x.length:Int) != 0)else none
  | .im (.tup is)=>some (!is.isEmpty)
  | .tm is=>some (!is.isEmpty)
  | .ro ns=>some (!ns.isEmpty)
  | .mu n=>match hd[n]? with
    | some (.lst ds)=>some (!ds.isEmpty)
    | some (.dic ds)=>some (!ds.isEmpty)
    | none=>none
theorem CA{α β:Type}{xs:List α}{ys:List β}(h:xs.length=ys.length):xs.isEmpty=ys.isEmpty:=by
  cases xs <;> cases ys <;> simp_all
theorem RKs.len:∀ {ds:List (Key × D)} {xs:List (Key × V)},RKs K ρ H ds xs->xs.length=ds.length
  | [],xs,h=>by simp only[RKs]at h;rw[h];rfl
  | d :: ds,xs,h=>by
    simp only[RKs]at h
    obtain⟨x,r,rfl,_,_,z⟩:=h
    simp[RKs.len z]
theorem Mq{d:D}{v:V}{b:Bool}(hR:RH K ρ H hd)(h:RD K ρ H d v)(e:Cs hd d=some b):IK K v H b:=by
  cases d with
  | im i=>
    cases i with
    | non=>simp only[RD,RI]at h;subst h;simp only[Cs,Option.some.injEq]at e;subst e;exact rfl
    | bl c=>simp only[RD,RI]at h;subst h;simp only[Cs,Option.some.injEq]at e;subst e;exact rfl
    | int c=>simp only[RD,RI]at h;subst h;simp only[Cs,Option.some.injEq]at e;subst e;exact rfl
    | str c=>
      simp only[RD,RI]at h;subst h;simp only[Cs]at e
      split at e
      . next z=>cases e;exact⟨z,rfl⟩
      . cases e
    | tup is=>
      obtain⟨a,xs,rfl,q,r⟩:=h.tup (ds:=is.map .im) rfl
      simp only[Cs,Option.some.injEq]at e;subst e
      exact .inr (.inl ⟨xs,q,by rw[CA (show xs.length=is.length by simpa using r.len)]⟩)
  | tm ds=>
    obtain⟨a,xs,rfl,q,r⟩:=h.tup (ds:=ds) rfl
    simp only[Cs,Option.some.injEq]at e;subst e
    exact .inr (.inl ⟨xs,q,by rw[CA r.len]⟩)
  | ro ns=>
    obtain⟨a,xs,rfl,q,r⟩:=h.lst hR (hd:=hd) (ds:=ns.map λ n=>.im (.int n)) rfl
    simp only[Cs,Option.some.injEq]at e;subst e
    exact .inl ⟨xs,q,by rw[CA (show xs.length=ns.length by simpa using r.len)]⟩
  | mu n=>
    simp only[RD]at h
    obtain⟨a,hn,rfl⟩:=h
    simp only[Cs]at e
    split at e
    . next q=>
      cases e
      obtain⟨xs,e1,e2⟩:=hR.lst hn q
      exact .inl ⟨xs,SqL.of e1,by rw[CA e2.len]⟩
    . next q=>
      cases e
      obtain⟨xs,e1,e2⟩:=hR.dic hn q
      exact .inr (.inr ⟨xs,e1,by rw[CA e2.len]⟩)
    . cases e
noncomputable def GJ(ma:ME):MT:=λ ls hd=>(ma ls hd).bind λ p=>(Cs p.2 p.1).map (·,p.2)
theorem Kx{ta:TE}{ma:ME}(ha:RE K ta ma):RT K (λ σ H Q=>ta σ H λ x H'=>∃ k,IK K x H' k/\Q k H') (GJ ma):=by
  intro ρ σ H hd ls Q d hd' hR hL hm hQ
  obtain⟨⟨d1,h1⟩,e1,hm⟩:=Option.bind_eq_some_iff.mp hm
  obtain⟨b,e2,e3⟩:=Option.map_eq_some_iff.mp hm
  cases e3
  exact ha ρ σ H hd ls _ d1 h1 hR hL e1 λ ρ1 H1 v x1 R1 r1=>⟨_,Mq R1 r1 e2,hQ ρ1 H1 x1 R1⟩
noncomputable def AJ(ma:ME):MT:=λ ls hd=>(ma ls hd).bind λ p=>match p.1 with
  | .im (.bl b)=>some (b,p.2)
  | _=>none
theorem IU{ta:TE}{ma:ME}(ha:RE K ta ma):RT K (Gu ta) (AJ ma):=by
  intro ρ σ H hd ls Q d hd' hR hL hm hQ
  obtain⟨⟨d1,h1⟩,e1,hm⟩:=Option.bind_eq_some_iff.mp hm
  dsimp only at hm
  split at hm
  . cases hm
    exact ha ρ σ H hd ls _ _ _ hR hL e1 λ ρ1 H1 v x1 R1 r1=>⟨_,by simpa only[RD,RI]using r1,hQ ρ1 H1 x1 R1⟩
  . cases hm
noncomputable def mIf(c:MT)(ma mb:ME):ME:=λ ls hd=>(c ls hd).bind λ p=>if p.1=true then ma ls p.2 else mb ls p.2
theorem MH{tc:TT}{c:MT}{ta tb:TE}{ma mb:ME}(hc:RT K tc c)(ha:RE K ta ma)(hb:RE K tb mb):RE K (tIf tc ta tb) (mIf c ma mb):=by
  intro ρ σ H hd ls Q d hd' hR hL hm hQ
  obtain⟨⟨d1,h1⟩,e1,hm⟩:=Option.bind_eq_some_iff.mp hm
  refine hc ρ σ H hd ls _ d1 h1 hR hL e1 λ ρ1 H1 x1 R1=>?_
  cases d1 with
  | true=>
    rw[if_pos rfl]at hm ⊢
    exact ha ρ1 σ H1 h1 ls Q d hd' R1 (hL.ext hR x1) hm λ ρ2 H2 v x2 R2 r2=>hQ ρ2 H2 v (x1.trans R1 x2) R2 r2
  | false=>
    rw[if_neg Bool.false_ne_true]at hm ⊢
    exact hb ρ1 σ H1 h1 ls Q d hd' R1 (hL.ext hR x1) hm λ ρ2 H2 v x2 R2 r2=>hQ ρ2 H2 v (x1.trans R1 x2) R2 r2
noncomputable def Qz(ma mb:ME):ME:=λ ls hd=>(AJ ma ls hd).bind λ p=>if p.1=true then mb ls p.2 else some (.im (.bl false),p.2)
noncomputable def Rp(ma mb:ME):ME:=λ ls hd=>(AJ ma ls hd).bind λ p=>if p.1=true then some (.im (.bl true),p.2)else mb ls p.2
noncomputable def Qw(ma:ME):ME:=λ ls hd=>(AJ ma ls hd).bind λ p=>some (.im (.bl (!p.1)),p.2)
noncomputable def A8:MA:=λ _ hd=>some ([],hd)
noncomputable def A2(ma:ME)(mr:MA):MA:=λ ls hd=>(ma ls hd).bind λ p=>(mr ls p.2).bind λ q=>some (p.1 :: q.1,q.2)
theorem Ow:RA K DM A8:=by
  intro ρ σ H hd ls Q d hd' hR hL hm hQ
  cases hm
  exact hQ ρ H [] .refl hR .nil
theorem NI{ta:TE}{tr:TA}{ma:ME}{mr:MA}(ha:RE K ta ma)(hr:RA K tr mr):RA K (CN ta tr) (A2 ma mr):=by
  intro ρ σ H hd ls Q d hd' hR hL hm hQ
  obtain⟨⟨d1,h1⟩,e1,hm⟩:=Option.bind_eq_some_iff.mp hm
  obtain⟨⟨d2,h2⟩,e2,hm⟩:=Option.bind_eq_some_iff.mp hm
  cases hm
  refine ha ρ σ H hd ls _ d1 h1 hR hL e1 λ ρ1 H1 v1 x1 R1 r1=>?_
  exact hr ρ1 σ H1 h1 ls _ d2 _ R1 (hL.ext hR x1) e2 λ ρ2 H2 v2 x2 R2 r2=>hQ ρ2 H2 _ (x1.trans R1 x2) R2 (.cons (r1.ext R1 x2) r2)
open Classical in
noncomputable def BB(ma:MA):ME:=λ ls hd=>(ma ls hd).bind λ p=>if Bi p.1.length then some (BP p.1,p.2)else none
theorem Oo{t:TA}{m:MA}(h:RA K t m):RE K (Kn t) (BB m):=by
  intro ρ σ H hd ls Q d hd' hR hL hm hQ
  obtain⟨⟨d1,h1⟩,e1,hm⟩:=Option.bind_eq_some_iff.mp hm
  dsimp only at hm
  split at hm
  . next z=>
    cases hm
    refine h ρ σ H hd ls _ d1 _ hR hL e1 λ ρ1 H1 v1 x1 R1 r1=>⟨by rw[r1.len];exact z,λ p hp=>?_⟩
    obtain⟨R2,x2⟩:=R1.hid (ho:=.tup v1) hp
    exact hQ ρ1 _ _ (x1.trans R1 x2) R2 (CY (SqT.of AQ) (r1.ext R1 x2))
  . cases hm
open Classical in
noncomputable def CS(ma:MA):MA:=λ ls hd=>(ma ls hd).bind λ p=>if Bi p.1.length then some (p.1,p.2)else none
theorem RH.out(hR:RH K ρ H hd){a:Addr}(h:H a=none):a ∉ ρ:=λ m=>by rcases hR.mut m with⟨y,z⟩|⟨y,z⟩ <;> (rw[h]at z;cases z)
theorem Ext.none(e:Ext ρ H ρ' H')(hR:RH K ρ H hd){a:Addr}(h:H' a=none)(hR':RH K ρ' H' hd'):H a=none:=by
  cases q:H a with
  | none=>rfl
  | some o=>
    by_cases m:a ∈ ρ
    . obtain⟨r,rfl,_⟩:=e.pre
      exact absurd (List.mem_append_left r m) (hR'.out h)
    . by_cases t:∃ ps,o=.tbl ps
      . obtain⟨ps,rfl⟩:=t
        obtain⟨ps',this⟩:=e.tab a ps q
        rw[h]at this;cases this
      . rw[e.keep a o q m λ ps y=>t ⟨ps,y⟩]at h;cases h
theorem Oi{t:TA}{m:MA}(h:RA K t m):RN K (Kr t) (CS m):=by
  intro ρ σ H hd ls Q d hd' hR hL hm hQ
  obtain⟨⟨d1,h1⟩,e1,hm⟩:=Option.bind_eq_some_iff.mp hm
  dsimp only at hm
  split at hm
  . next z=>
    cases hm
    refine h ρ σ H hd ls _ _ _ hR hL e1 λ ρ1 H1 v1 x1 R1 r1=>⟨by rw[r1.len];exact z,λ p hp=>?_⟩
    obtain⟨R2,x2⟩:=R1.hid (ho:=.lst v1) hp
    exact hQ ρ1 _ p v1 (x1.trans R1 x2) R2 (x1.none hR hp R1) (R1.out hp) AQ (r1.ext R1 x2)
  . cases hm
noncomputable def Be(ml:MA):ME:=λ ls hd=>(ml ls hd).bind λ p=>some (.mu p.2.length,p.2 ++ [.lst p.1])
theorem RH.name(hR:RH K ρ H hd){a:Addr}{xs:List V}{ds:List D}(out:a ∉ ρ)(e:H a=some (.lst xs))(r:RDs K ρ H ds xs):RH K (ρ ++ [a]) H (hd ++ [.lst ds]):=by
  have mono:∀ {o:MO} {ho:HO},RC K ρ H o ho->RC K (ρ ++ [a]) H o ho:=λ c=>c.mono Grow.refl [a]
  refine⟨by simp[hR.len],?_,hR.tabs,λ n o' b e1 e2=>?_⟩
  . rw[List.nodup_append]
    refine⟨hR.nd,by simp,λ x hx y hy z=>?_⟩
    simp at hy;subst hy;subst z;exact out hx
  . by_cases hn:n < ρ.length
    . rw[List.getElem?_append_left hn]at e2
      rw[List.getElem?_append_left (by rw[<- hR.len];exact hn)]at e1
      obtain⟨ho',q1,q2⟩:=hR.ob n o' b e1 e2
      exact⟨ho',q1,mono q2⟩
    . have hn':n=ρ.length:=by
        have:=(List.getElem?_eq_some_iff.mp e2).1
        simp at this;omega
      subst hn'
      simp at e2
      rw[hR.len]at e1
      simp at e1
      subst e1;subst e2
      exact⟨_,e,mono ⟨xs,rfl,r⟩⟩
theorem Ext.name(e:Ext ρ H ρ' H'){a:Addr}(h:H a=Option.none):Ext ρ H (ρ' ++ [a]) H':=by
  obtain⟨r,rfl,f⟩:=e.pre
  refine⟨⟨r ++ [a],by simp,λ b m=>?_⟩,e.keep,e.tab⟩
  rcases List.mem_append.mp m with m|m
  . exact f b m
  . simp at m;subst m;exact h
theorem Oq{t:TE}{m:MA}(h:RN K t m):RE K t (Be m):=by
  intro ρ σ H hd ls Q d hd' hR hL hm hQ
  obtain⟨⟨d1,h1⟩,e1,hm⟩:=Option.bind_eq_some_iff.mp hm
  cases hm
  refine h ρ σ H hd ls Q d1 h1 hR hL e1 λ ρ1 H1 a xs x1 R1 na oa ea r1=>?_
  refine hQ (ρ1 ++ [a]) H1 _ (x1.name na) (R1.name oa ea r1) ?_
  simp only[RD]
  exact⟨a,by rw[<- R1.len];simp,rfl⟩
end
end L2
namespace L2
open PySem PySem.Spec PyProof.Rows
section
variable{K:PySem.W.Frag}{ρ ρ':List Addr}{H H':Hp}{hd hd':Hd}
noncomputable def fI(g:Int->Int->Option I):D->D->Hd->Option (D × Hd)
  | .im (.int i),.im (.int j),hd=>(g i j).map (.im ·,hd)
  | _,_,_=>none
theorem JJ{C:Int->Int->Prop}{g:Int->Int->V}{f:Int->Int->Option I}(h:∀ i j z,f i j=some z->C i j/\∀ H,RI K H z (g i j)):RB K (rI C g) (fI f):=by
  intro ρ H hd d e v u Q z hd' hR h1 h2 hf hQ
  unfold fI at hf
  split at hf
  . simp only[RD,RI]at h1 h2
    subst h1 h2
    obtain⟨w,e1,e2⟩:=Option.map_eq_some_iff.mp hf
    cases e2
    obtain⟨c,r⟩:=h _ _ _ e1
    exact⟨_,_,rfl,rfl,c,hQ ρ H _ .refl hR (by simpa only[RD]using r H)⟩
  . cases hf
theorem Eu{g:Int->Int->V}{f:Int->Int->I}(h:∀ i j H,RI K H (f i j) (g i j)):RB K (rI0 g) (fI λ i j=>some (f i j)):=by
  intro ρ H hd d e v u Q z hd' hR h1 h2 hf hQ
  unfold fI at hf
  split at hf
  . simp only[RD,RI]at h1 h2
    subst h1 h2
    cases hf
    exact⟨_,_,rfl,rfl,hQ ρ H _ .refl hR (by simpa only[RD]using h _ _ H)⟩
  . cases hf
noncomputable def FF(f g:D->D->Hd->Option (D × Hd)):D->D->Hd->Option (D × Hd):=λ d e hd=>match f d e hd with
  | some z=>some z
  | none=>g d e hd
theorem AG{r r':R2}{f g:D->D->Hd->Option (D × Hd)}(h:RB K r f)(h':RB K r' g):RB K (λ x y H Q=>r x y H Q ∨ r' x y H Q) (FF f g):=by
  intro ρ H hd d e v u Q z hd' hR h1 h2 hf hQ
  unfold FF at hf
  split at hf
  . next q=>cases hf;exact .inl (h ρ H hd d e v u Q z hd' hR h1 h2 q hQ)
  . exact .inr (h' ρ H hd d e v u Q z hd' hR h1 h2 hf hQ)
noncomputable abbrev Jg:D->D->Hd->Option (D × Hd):=fI λ i j=>some (.int (i + j))
noncomputable abbrev CV:D->D->Hd->Option (D × Hd):=fI λ i j=>some (.int (i - j))
theorem B2:RB K (rI0 λ i j=>.int (i + j)) Jg:=Eu λ _ _ _=>by simp[RI]
theorem EU:RB K (rI0 λ i j=>.int (i - j)) CV:=Eu λ _ _ _=>by simp[RI]
open Classical in
noncomputable abbrev C0:D->D->Hd->Option (D × Hd):=fI λ i j=>if Cf i j then some (.int (i * j))else none
theorem Ck:RB K (rI CMul λ i j=>.int (i * j)) C0:=JJ λ i j z h=>by
  split at h
  . next q=>cases h;exact⟨q,λ _=>by simp[RI]⟩
  . cases h
open Classical in
noncomputable abbrev C1:D->D->Hd->Option (D × Hd):=fI λ i j=>if CF j then some (.int (i % j))else none
theorem Cl:RB K (rI (λ _ j=>0 < j) λ i j=>.int (i % j)) C1:=JJ λ i j z h=>by
  split at h
  . next q=>cases h;exact⟨q,λ _=>by simp[RI]⟩
  . cases h
open Classical in
noncomputable abbrev EG:D->D->Hd->Option (D × Hd):=fI λ i j=>if HA j then some (.int (i / j))else none
theorem GC:RB K (rI QP λ i j=>.int (i / j)) EG:=JJ λ i j z h=>by
  split at h
  . next q=>cases h;exact⟨q,λ _=>by simp[RI]⟩
  . cases h
open Classical in
noncomputable abbrev Lr:D->D->Hd->Option (D × Hd):=fI λ i j=>if JR i j then some (.int (i ^ j.toNat))else none
theorem Ov:RB K (rI QM λ i j=>.int (i ^ j.toNat)) Lr:=JJ λ i j z h=>by
  split at h
  . next q=>cases h;exact⟨q,λ _=>by simp[RI]⟩
  . cases h
noncomputable abbrev gLt:D->D->Hd->Option (D × Hd):=fI λ i j=>some (.bl (decide (i < j)))
noncomputable abbrev gLe:D->D->Hd->Option (D × Hd):=fI λ i j=>some (.bl (decide (i <= j)))
noncomputable abbrev gGt:D->D->Hd->Option (D × Hd):=fI λ i j=>some (.bl (decide (j < i)))
noncomputable abbrev gGe:D->D->Hd->Option (D × Hd):=fI λ i j=>some (.bl (decide (j <= i)))
theorem JI:RB K (rI0 λ i j=>.bl (decide (i < j))) gLt:=Eu λ _ _ _=>by simp[RI]
theorem Qh:RB K (rI0 λ i j=>.bl (decide (i <= j))) gLe:=Eu λ _ _ _=>by simp[RI]
theorem ML:RB K (rI0 λ i j=>.bl (decide (j < i))) gGt:=Eu λ _ _ _=>by simp[RI]
theorem Qj:RB K (rI0 λ i j=>.bl (decide (j <= i))) gGe:=Eu λ _ _ _=>by simp[RI]
noncomputable def scI:I->Option V
  | .non=>some .non
  | .bl b=>some (.bl b)
  | .int i=>some (.int i)
  | .str x=>some (.str x)
  | .tup _=>none
theorem Fc{i:I}{v w:V}(e:scI i=some w)(h:RI K H i v):v=w:=by
  cases i with
  | tup _=>simp[scI]at e
  | _=>simp only[scI,Option.some.injEq]at e;subst e;simpa only[RI]using h
noncomputable def Di(neg:Bool):D->D->Hd->Option (D × Hd)
  | .im i,.im j,hd=>match scI i,scI j with
    | some x,some y=>if HU x y=true then some (.im (.bl (if neg then !decide (x=y)else decide (x=y))),hd)else none
    | _,_=>none
  | _,_,_=>none
theorem As:RB K rEq (Di false):=by
  intro ρ H hd d e v u Q z hd' hR h1 h2 hf hQ
  unfold Di at hf
  split at hf
  . split at hf
    . next x y e1 e2=>
      split at hf
      . next s=>
        cases hf
        simp only[RD]at h1 h2
        rw[Fc e1 h1,Fc e2 h2]
        exact⟨s,hQ ρ H _ .refl hR (by simp[RD,RI])⟩
      . cases hf
    . cases hf
  . cases hf
theorem EV:RB K rNe (Di true):=by
  intro ρ H hd d e v u Q z hd' hR h1 h2 hf hQ
  unfold Di at hf
  split at hf
  . split at hf
    . next x y e1 e2=>
      split at hf
      . next s=>
        cases hf
        simp only[RD]at h1 h2
        rw[Fc e1 h1,Fc e2 h2]
        exact⟨s,hQ ρ H _ .refl hR (by simp[RD,RI])⟩
      . cases hf
    . cases hf
  . cases hf
mutual
noncomputable def I.py:I->PyData
  | .non=>.none
  | .bl b=>.bool b
  | .int i=>.int i
  | .str x=>.str x
  | .tup ds=>.tuple (I.pys ds)
noncomputable def I.pys:List I->List PyData
  | []=>[]
  | d :: ds=>I.py d :: I.pys ds
end
mutual
theorem RI.rep:∀ {i:I} {v:V},RI K H i v->Rep K H i.py v
  | .non,v,h=>by simpa only[RI,I.py,Rep]using h
  | .bl _,v,h=>by simpa only[RI,I.py,Rep]using h
  | .int _,v,h=>by simpa only[RI,I.py,Rep]using h
  | .str _,v,h=>by simpa only[RI,I.py,Rep]using h
  | .tup ds,v,h=>by
    simp only[RI]at h
    obtain⟨a,xs,e,q,r⟩:=h
    simp only[I.py,Rep]
    exact⟨a,xs,e,q,RIs.rep r⟩
theorem RIs.rep:∀ {i:List I} {v:List V},RIs K H i v->Br K H (I.pys i) v
  | [],v,h=>by simpa only[RIs,I.pys,Br]using h
  | d :: ds,v,h=>by
    simp only[RIs]at h
    obtain⟨x,r,e,q,z⟩:=h
    simp only[I.pys,Br]
    exact⟨x,r,e,q.rep,RIs.rep z⟩
end
noncomputable def pyD(hd:Hd):D->Option PyData
  | .im i=>some i.py
  | .mu n=>match hd[n]? with
    | some (.lst ds)=>(Bb ds).map λ is=>.list (I.pys is)
    | _=>none
  | .ro ns=>some (.list (I.pys (ns.map I.int)))
  | _=>none
theorem DC{d:D}{v:V}{p:PyData}(hR:RH K ρ H hd)(h:RD K ρ H d v)(e:pyD hd d=some p):Rep K H p v:=by
  cases d with
  | im i=>simp only[pyD,Option.some.injEq]at e;subst e;simp only[RD]at h;exact h.rep
  | mu n=>
    simp only[pyD]at e
    simp only[RD]at h
    obtain⟨a,hn,rfl⟩:=h
    split at e
    . next q=>
      obtain⟨is,e1,rfl⟩:=Option.map_eq_some_iff.mp e
      obtain⟨xs,e2,e3⟩:=hR.lst hn q
      rw[EI e1]at e3
      simp only[Rep]
      exact⟨a,xs,rfl,SqL.of e2,e3.is.rep⟩
    . cases e
  | ro ns=>
    simp only[pyD,Option.some.injEq]at e;subst e
    obtain⟨a,xs,rfl,q,r⟩:=h.lst hR (hd:=hd) (ds:=ns.map λ n=>.im (.int n)) rfl
    simp only[Rep]
    refine⟨a,xs,rfl,q,RIs.rep (RDs.is (ρ:=ρ) ?_)⟩
    rw[List.map_map]
    exact r
  | tm _=>simp[pyD]at e
noncomputable def GR(neg:Bool):D->D->Hd->Option (D × Hd):=λ d e hd=>match pyD hd d,pyD hd e with
  | some x,some y=>if x.canLay0=true/\y.canLay0=true/\min x.depth y.depth <= 60 then some (.im (.bl (if neg then !PyData.eqv x y else PyData.eqv x y)),hd)else none
  | _,_=>none
theorem At:RB K (LI K) (GR false):=by
  intro ρ H hd d e v u Q z hd' hR h1 h2 hf hQ
  unfold GR at hf
  split at hf
  . next e1 e2=>
    split at hf
    . next c=>cases hf;exact⟨_,_,DC hR h1 e1,DC hR h2 e2,c.1,c.2.1,c.2.2,hQ ρ H _ .refl hR (by simp[RD,RI])⟩
    . cases hf
  . cases hf
theorem EW:RB K (LD K) (GR true):=by
  intro ρ H hd d e v u Q z hd' hR h1 h2 hf hQ
  unfold GR at hf
  split at hf
  . next e1 e2=>
    split at hf
    . next c=>cases hf;exact⟨_,_,DC hR h1 e1,DC hR h2 e2,c.1,c.2.1,c.2.2,hQ ρ H _ .refl hR (by simp[RD,RI])⟩
    . cases hf
  . cases hf
noncomputable abbrev gEq:=FF (Di false) (GR false)
noncomputable abbrev gNe:=FF (Di true) (GR true)
noncomputable def gIx:D->D->Hd->Option (D × Hd)
  | d,.im (.int i),hd=>(BF hd d).bind λ ds=>(atI ds i).map (·,hd)
  | _,_,_=>none
theorem Ix{α β:Type}{xs:List α}{ys:List β}{i:Int}{y:β}(h:xs.length=ys.length)(e:atI ys i=some y):∃ (j:Nat),ys[j]? = some y/\∀ x,xs[j]? = some x->atI xs i=some x:=by
  unfold atI at e
  obtain⟨j,e1,e2⟩:=Option.bind_eq_some_iff.mp e
  exact⟨j,e2,λ x q=>by unfold atI;rw[h,e1];exact q⟩
noncomputable def Gw(K:PySem.W.Frag):R2:=λ x y H Q=>LG K x y H Q ∨ LF K x y H Q
theorem Qi:RB K (Gw K) gIx:=by
  intro ρ H hd d e v u Q z hd' hR h1 h2 hf hQ
  unfold gIx at hf
  split at hf
  . obtain⟨ds,e1,hf⟩:=Option.bind_eq_some_iff.mp hf
    obtain⟨w,e2,e3⟩:=Option.map_eq_some_iff.mp hf
    cases e3
    obtain⟨a,xs,rfl,q,r⟩:=h1.seq hR e1
    simp only[RD,RI]at h2
    subst h2
    obtain⟨j,j1,j2⟩:=Ix r.len e2
    obtain⟨x,x1,x2⟩:=r.get j1
    rcases q with q|q
    . exact .inl ⟨a,xs,_,x,rfl,rfl,q,j2 x x1,hQ ρ H x .refl hR x2⟩
    . exact .inr ⟨a,xs,_,x,rfl,rfl,q,j2 x x1,hQ ρ H x .refl hR x2⟩
  . cases hf
noncomputable def DU(xs:List D)(lo hi:Option Int):List D:=(xs.drop (HT.sIx xs.length 0 lo)).take (HT.sIx xs.length xs.length hi - HT.sIx xs.length 0 lo)
theorem Iu{ds:List D}{xs:List V}{lo hi:Option Int}(r:RDs K ρ H ds xs):RDs K ρ H (DU ds lo hi) (Dk xs lo hi):=by
  unfold DU Dk
  rw[r.len]
  exact(r.drop _).take _
noncomputable abbrev MO1:=Ls->Hd->Option (Option Int × Hd)
noncomputable def RO1(K:PySem.W.Frag)(t:TO)(m:MO1):Prop:=∀ (ρ:List Addr) (σ:St) (H:Hp) (hd:Hd) (ls:Ls) (Q:Option Int->Hp->Prop) (d:Option Int) (hd':Hd),RH K ρ H hd->RL K ρ H ls σ->m ls hd=some (d,hd') ->
  (∀ ρ' H',Ext ρ H ρ' H'->RH K ρ' H' hd'->Q d H')->t σ H Q
noncomputable def Cb:MO1:=λ _ hd=>some (none,hd)
noncomputable def EC(m:ME):MO1:=λ ls hd=>(m ls hd).bind λ p=>match p.1 with
  | .im (.int i)=>some (some i,p.2)
  | _=>none
theorem N5:RO1 K G9 Cb:=by
  intro ρ σ H hd ls Q d hd' hR hL hm hQ
  cases hm
  exact hQ ρ H .refl hR
theorem N4{t:TE}{m:ME}(h:RE K t m):RO1 K (JA t) (EC m):=by
  intro ρ σ H hd ls Q d hd' hR hL hm hQ
  obtain⟨⟨d1,h1⟩,e1,hm⟩:=Option.bind_eq_some_iff.mp hm
  dsimp only at hm
  split at hm
  . cases hm
    exact h ρ σ H hd ls _ _ _ hR hL e1 λ ρ1 H1 v x1 R1 r1=>⟨_,by simpa only[RD,RI]using r1,hQ ρ1 H1 x1 R1⟩
  . cases hm
noncomputable def Ht(m:ME)(ml mh:MO1):ME:=λ ls hd=>(m ls hd).bind λ p=>(ml ls p.2).bind λ l=>(mh ls l.2).bind λ h=>(Ag p.1).bind λ ds=>
  if ¬ (HT.sIx ds.length 0 l.1=0/\HT.sIx ds.length ds.length h.1=ds.length)then some (BP (DU ds l.1 h.1),h.2)else none
theorem Op{t:TE}{tl th:TO}{m:ME}{ml mh:MO1}(h:RE K t m)(hl:RO1 K tl ml)(hh:RO1 K th mh):RE K (tSl (JL K) t tl th) (Ht m ml mh):=by
  intro ρ σ H hd ls Q d hd' hR hL hm hQ
  obtain⟨⟨d1,h1⟩,e1,hm⟩:=Option.bind_eq_some_iff.mp hm
  obtain⟨⟨d2,h2⟩,e2,hm⟩:=Option.bind_eq_some_iff.mp hm
  obtain⟨⟨d3,h3⟩,e3,hm⟩:=Option.bind_eq_some_iff.mp hm
  obtain⟨ds,e4,hm⟩:=Option.bind_eq_some_iff.mp hm
  dsimp only at e2 e3 e4 hm
  split at hm
  . next c=>
    cases hm
    refine h ρ σ H hd ls _ d1 h1 hR hL e1 λ ρ1 H1 v1 x1 R1 r1=>?_
    refine hl ρ1 σ H1 h1 ls _ d2 h2 R1 (hL.ext hR x1) e2 λ ρ2 H2 x2 R2=>?_
    refine hh ρ2 σ H2 h2 ls _ d3 _ R2 (hL.ext hR (x1.trans R1 x2)) e3 λ ρ3 H3 x3 R3=>?_
    obtain⟨a,xs,rfl,q,r⟩:=((r1.ext R1 x2).ext R2 x3).tup e4
    refine⟨a,xs,rfl,q,by rw[r.len];exact c,λ p hp=>?_⟩
    obtain⟨R4,x4⟩:=R3.hid (ho:=.tup (Dk xs d2 d3)) hp
    exact hQ ρ3 _ _ (((x1.trans R1 x2).trans R2 x3).trans R3 x4) R4 (CY (SqT.of AQ) ((Iu r).ext R3 x4))
  . cases hm
noncomputable def Hu(m:ME)(ml mh:MO1):MA:=λ ls hd=>(m ls hd).bind λ p=>(ml ls p.2).bind λ l=>(mh ls l.2).bind λ h=>(B9 h.2 p.1).bind λ ds=>some (DU ds l.1 h.1,h.2)
theorem Oh{t:TE}{tl th:TO}{m:ME}{ml mh:MO1}(h:RE K t m)(hl:RO1 K tl ml)(hh:RO1 K th mh):RN K (tSl (JM K) t tl th) (Hu m ml mh):=by
  intro ρ σ H hd ls Q d hd' hR hL hm hQ
  obtain⟨⟨d1,h1⟩,e1,hm⟩:=Option.bind_eq_some_iff.mp hm
  obtain⟨⟨d2,h2⟩,e2,hm⟩:=Option.bind_eq_some_iff.mp hm
  obtain⟨⟨d3,h3⟩,e3,hm⟩:=Option.bind_eq_some_iff.mp hm
  obtain⟨ds,e4,hm⟩:=Option.bind_eq_some_iff.mp hm
  dsimp only at e2 e3 e4 hm
  cases hm
  refine h ρ σ H hd ls _ d1 h1 hR hL e1 λ ρ1 H1 v1 x1 R1 r1=>?_
  refine hl ρ1 σ H1 h1 ls _ d2 h2 R1 (hL.ext hR x1) e2 λ ρ2 H2 x2 R2=>?_
  refine hh ρ2 σ H2 h2 ls _ d3 _ R2 (hL.ext hR (x1.trans R1 x2)) e3 λ ρ3 H3 x3 R3=>?_
  obtain⟨a,xs,rfl,q,r⟩:=RD.lst R3 ((r1.ext R1 x2).ext R2 x3) e4
  refine⟨a,xs,rfl,q,λ p hp=>?_⟩
  obtain⟨R4,x4⟩:=R3.hid (ho:=.lst (Dk xs d2 d3)) hp
  have x123:=(x1.trans R1 x2).trans R2 x3
  exact hQ ρ3 _ p _ (x123.trans R3 x4) R4 (x123.none hR hp R3) (R3.out hp) AQ ((Iu r).ext R3 x4)
noncomputable def mCB(f:List D->Hd->Option (D × Hd))(ma:MA):ME:=λ ls hd=>(ma ls hd).bind λ p=>f p.1 p.2
theorem MJ{r:List V->Hp->VK->Prop}{f:List D->Hd->Option (D × Hd)}{t:TA}{m:MA}(hr:RF K r f)(h:RA K t m):RE K (tCB r t) (mCB f m):=by
  intro ρ σ H hd ls Q d hd' hR hL hm hQ
  obtain⟨⟨d1,h1⟩,e1,hm⟩:=Option.bind_eq_some_iff.mp hm
  refine h ρ σ H hd ls _ d1 h1 hR hL e1 λ ρ1 H1 v1 x1 R1 r1=>?_
  exact hr ρ1 H1 h1 d1 v1 Q d hd' R1 r1 hm λ ρ' H' w x2 R2 r2=>hQ ρ' H' w (x1.trans R1 x2) R2 r2
noncomputable def f1(tp:Bool)(g:List D->Option D):List D->Hd->Option (D × Hd)
  | [d],hd=>((if tp then BF hd d else B9 hd d)).bind λ ds=>(g ds).map (·,hd)
  | _,_=>none
theorem Ha{tp:Bool}{r:List V->Hp->VK->Prop}{g:List D->Option D}(h:RG K tp r g):RF K r (f1 tp g):=by
  intro ρ H hd ds vs Q z hd' hR h1 hf hQ
  unfold f1 at hf
  split at hf
  . next d hd'=>
    obtain⟨es,e1,hf⟩:=Option.bind_eq_some_iff.mp hf
    obtain⟨w,e2,e3⟩:=Option.map_eq_some_iff.mp hf
    cases e3
    simp only[RDs]at h1
    obtain⟨x,r,rfl,rx,rfl⟩:=h1
    cases tp with
    | true=>
      rw[if_pos rfl]at e1
      obtain⟨a,xs,rfl,q,rr⟩:=rx.seq hR e1
      exact h ρ H hd a xs es Q z hR (q.imp id λ q=>⟨rfl,q⟩) rr e2 λ H' w x R r=>hQ ρ H' w x R r
    | false=>
      rw[if_neg Bool.false_ne_true]at e1
      obtain⟨a,xs,rfl,q,rr⟩:=rx.lst hR e1
      exact h ρ H hd a xs es Q z hR (.inl q) rr e2 λ H' w x R r=>hQ ρ H' w x R r
  . cases hf
noncomputable def GM(g:List D->Option D)(ml:MA):ME:=λ ls hd=>(ml ls hd).bind λ p=>(g p.1).map (·,p.2)
theorem Ou{tp:Bool}{r:List V->Hp->VK->Prop}{g:List D->Option D}{t:TE}{m:MA}(hr:RG K tp r g)(h:RN K t m):RE K (tCB r (CN t DM)) (GM g m):=by
  intro ρ σ H hd ls Q d hd' hR hL hm hQ
  obtain⟨⟨d1,h1⟩,e1,hm⟩:=Option.bind_eq_some_iff.mp hm
  obtain⟨w,e2,e3⟩:=Option.map_eq_some_iff.mp hm
  cases e3
  refine h ρ σ H hd ls _ d1 _ hR hL e1 λ ρ1 H1 a xs x1 R1 na oa ea r1=>?_
  exact hr ρ1 H1 _ a xs d1 Q d R1 (.inl (SqL.of ea)) r1 e2 λ H' w x R r=>hQ ρ1 H' w (x1.trans R1 x) R r
noncomputable def EE(ds:List D):Option D:=some (.im (.int ds.length))
theorem K1:RG K true (Ox K) EE:=by
  intro ρ H hd a xs ds Q z hR q r e hQ
  cases e
  refine⟨a,xs,rfl,q.imp id λ q=>q.2,?_⟩
  rw[r.len]
  exact hQ H _ .refl hR (by simp[RD,RI])
noncomputable def Dy(ds:List D):Option D:=some (BP ds)
theorem DN:RG K true (Hf K) Dy:=by
  intro ρ H hd a xs ds Q z hR q r e hQ
  cases e
  refine⟨a,xs,rfl,?_⟩
  rcases q with q|⟨_,q⟩
  . refine .inl ⟨q,λ p hp=>?_⟩
    obtain⟨R2,x2⟩:=hR.hid (ho:=.tup xs) hp
    exact hQ _ _ x2 R2 (CY (SqT.of AQ) (r.ext hR x2))
  . exact .inr ⟨q,hQ H _ .refl hR (CY q r)⟩
theorem GO{α:Type}{xs:List α}(h:xs ≠ []):0 < xs.length:=by cases xs <;> simp_all
noncomputable def Mc:List D->Hd->Option (D × Hd)
  | [.im (.int i),.im (.int j)],hd=>some (.im (.int (if j > i then j else i)),hd)
  | _,_=>none
noncomputable def Fz:List D->Hd->Option (D × Hd)
  | [.im (.int i),.im (.int j)],hd=>some (.im (.int (if j < i then j else i)),hd)
  | _,_=>none
theorem NC:RF K (λ xs H Q=>∃ i j,xs=[.int i,.int j]/\Q (.int (if j < i then j else i)) H) Fz:=by
  intro ρ H hd ds vs Q z hd' hR h1 hf hQ
  unfold Fz at hf
  split at hf
  . cases hf
    simp only[RDs,RD,RI]at h1
    obtain⟨x,r,rfl,rfl,y,r2,rfl,rfl,rfl⟩:=h1
    exact⟨_,_,rfl,hQ ρ H _ .refl hR (by simp[RD,RI])⟩
  . cases hf
noncomputable def Rs:List D->Hd->Option (D × Hd)
  | [.im (.int i)],hd=>some (.im (.int (if i < 0 then -i else i)),hd)
  | _,_=>none
noncomputable def Fo(ma:ME):MA:=λ ls hd=>(ma ls hd).bind λ p=>(BF p.2 p.1).map (·,p.2)
theorem N6{t:TE}{m:ME}(h:RE K t m):RN K (tCB (Dr K) (CN t DM)) (Fo m):=by
  intro ρ σ H hd ls Q d hd' hR hL hm hQ
  obtain⟨⟨d1,h1⟩,e1,hm⟩:=Option.bind_eq_some_iff.mp hm
  obtain⟨w,e2,e3⟩:=Option.map_eq_some_iff.mp hm
  cases e3
  refine h ρ σ H hd ls _ d1 _ hR hL e1 λ ρ1 H1 v x1 R1 r1=>?_
  obtain⟨a,xs,rfl,q,rr⟩:=r1.seq R1 e2
  refine⟨a,xs,rfl,q,λ l hl=>?_⟩
  obtain⟨R2,x2⟩:=R1.hid (ho:=.lst xs) hl
  exact hQ ρ1 _ l xs (x1.trans R1 x2) R2 (x1.none hR hl R1) (R1.out hl) AQ (rr.ext R1 x2)
noncomputable def Eg(ml:MA):MA:=ml
theorem L8{t:TE}{m:MA}(h:RN K t m):RN K (tCB (Dr K) (CN t DM)) (Eg m):=by
  intro ρ σ H hd ls Q d hd' hR hL hm hQ
  refine h ρ σ H hd ls _ d _ hR hL hm λ ρ1 H1 a xs x1 R1 na oa ea r1=>?_
  refine⟨a,xs,rfl,.inl (SqL.of ea),λ l hl=>?_⟩
  obtain⟨R2,x2⟩:=R1.hid (ho:=.lst xs) hl
  exact hQ ρ1 _ l xs (x1.trans R1 x2) R2 (x1.none hR hl R1) (R1.out hl) AQ (r1.ext R1 x2)
noncomputable def C9(d:PyData):Prop:=d.showable=true/\d.hasDict=false/\isDisplay d=true/\d.depth <= 30/\d.shown.length <= sizeLine
open Classical in
noncomputable def C5:List D->Hd->Option (D × Hd)
  | [d],hd=>match pyD hd d with
    | some p=>if C9 p then some (.im (.str p.shown),hd)else none
    | none=>none
  | _,_=>none
theorem CK:RF K (JO K) C5:=by
  intro ρ H hd ds vs Q z hd' hR h1 hf hQ
  unfold C5 at hf
  split at hf
  . split at hf
    . next p e=>
      split at hf
      . next c=>
        cases hf
        simp only[RDs]at h1
        obtain⟨x,r,rfl,rx,rfl⟩:=h1
        exact⟨x,p,rfl,DC hR rx e,c.1,c.2.1,c.2.2.1,c.2.2.2.1,c.2.2.2.2,hQ ρ H _ .refl hR (by simp[RD,RI])⟩
      . cases hf
    . cases hf
  . cases hf
open Classical in
noncomputable def Dz:List D->Hd->Option (D × Hd)
  | [.im (.int i)],hd=>if Kv i.natAbs.log2 then some (.im (.str (toString i)),hd)else none
  | _,_=>none
theorem HZ:RF K (λ xs H Q=>∃ i,xs=[.int i]/\i.natAbs.log2 < 1920/\Q (.str (toString i)) H) Dz:=by
  intro ρ H hd ds vs Q z hd' hR h1 hf hQ
  unfold Dz at hf
  split at hf
  . split at hf
    . next c=>
      cases hf
      simp only[RDs,RD,RI]at h1
      obtain⟨x,r,rfl,rfl,rfl⟩:=h1
      exact⟨_,rfl,c,hQ ρ H _ .refl hR (by simp[RD,RI])⟩
    . cases hf
  . cases hf
noncomputable def mMt(f:D->List D->Hd->Option (D × Hd))(mo:ME)(ma:MA):ME:=λ ls hd=>(mo ls hd).bind λ p=>match B9 p.2 p.1 with
  | some _=>(ma ls p.2).bind λ q=>f p.1 q.1 q.2
  | none=>none
noncomputable def RM(K:PySem.W.Frag)(r:V->List V->Hp->VK->Prop)(f:D->List D->Hd->Option (D × Hd)):Prop:=∀ (ρ:List Addr) (H:Hp) (hd:Hd) (d:D) (v:V) (ds:List D) (vs:List V) (Q:VK) (z:D) (hd':Hd),RH K ρ H hd->RD K ρ H d v->RDs K ρ H ds vs->f d ds hd=some (z,hd') ->
  (∀ ρ' H' w,Ext ρ H ρ' H'->RH K ρ' H' hd'->RD K ρ' H' z w->Q w H')->r v vs H Q
theorem Qg{r:V->List V->Hp->VK->Prop}{f:D->List D->Hd->Option (D × Hd)}{to:TE}{t:TA}{mo:ME}{ma:MA}(hr:RM K r f)(ho:RE K to mo)(ha:RA K t ma):RE K (tBM K "list" r to t) (mMt f mo ma):=by
  intro ρ σ H hd ls Q d hd' hR hL hm hQ
  obtain⟨⟨d1,h1⟩,e1,hm⟩:=Option.bind_eq_some_iff.mp hm
  dsimp only at hm
  split at hm
  . next e=>
    obtain⟨⟨d2,h2⟩,e2,hm⟩:=Option.bind_eq_some_iff.mp hm
    refine ho ρ σ H hd ls _ d1 h1 hR hL e1 λ ρ1 H1 v x1 R1 r1=>⟨?_,?_⟩
    . obtain⟨a,xs,rfl,q,_⟩:=r1.lst R1 e
      exact .inl ⟨rfl,xs,q⟩
    . exact ha ρ1 σ H1 h1 ls _ d2 h2 R1 (hL.ext hR x1) e2 λ ρ2 H2 vs x2 R2 r2=>hr ρ2 H2 h2 d1 v d2 vs Q d hd' R2 (r1.ext R1 x2) r2 hm λ ρ' H' w x3 R3 r3=>hQ ρ' H' w ((x1.trans R1 x2).trans R2 x3) R3 r3
  . cases hm
open Classical in
noncomputable def Cd:D->List D->Hd->Option (D × Hd)
  | .mu n,[x],hd=>match hd[n]? with
    | some (.lst ds)=>if EH ds.length then some (.im .non,hd.set n (.lst (ds ++ [x])))else none
    | _=>none
  | _,_,_=>none
theorem GW:RM K IZ Cd:=by
  intro ρ H hd d v ds vs Q z hd' hR h1 h2 hf hQ
  unfold Cd at hf
  split at hf
  . split at hf
    . next q=>
      split at hf
      . next c=>
        cases hf
        simp only[RD]at h1
        obtain⟨a,hn,rfl⟩:=h1
        simp only[RDs]at h2
        obtain⟨x,r,rfl,rx,rfl⟩:=h2
        obtain⟨xs,e1,e2⟩:=hR.lst hn q
        obtain⟨R2,x2⟩:=hR.put hn (o:=.lst (_ ++ [_])) (ho:=.lst (xs ++ [x])) ⟨_,rfl,e2.app (.cons rx .nil)⟩
        exact⟨a,xs,x,rfl,rfl,e1,by rw[e2.len];exact c,hQ ρ _ _ x2 R2 (by simp[RD,RI])⟩
      . cases hf
    . cases hf
  . cases hf
end
end L2
namespace L2
open PySem PySem.Spec PyProof.Rows
section
variable{K:PySem.W.Frag}{ρ ρ':List Addr}{H H':Hp}{hd hd':Hd}
noncomputable def AV:MS:=λ ls hd=>some (.nx ls,hd)
theorem IV:RS K Gv AV:=by
  intro ρ σ H hd ls E f hd' hR hL hm hQ
  cases hm
  exact hQ ρ H .refl hR σ hL
noncomputable def AD(a b:MS):MS:=λ ls hd=>(a ls hd).bind λ p=>match p.1 with
  | .nx ls1=>b ls1 p.2
  | f=>some (f,p.2)
theorem K0{t u:TS}{a b:MS}(ha:RS K t a)(hb:RS K u b):RS K (HK t u) (AD a b):=by
  intro ρ σ H hd ls E f hd' hR hL hm hQ
  obtain⟨⟨f1,h1⟩,e1,hm⟩:=Option.bind_eq_some_iff.mp hm
  refine ha ρ σ H hd ls { E with nx:=u E } f1 h1 hR hL e1 λ ρ1 H1 x1 R1=>?_
  cases f1 with
  | nx ls1=>
    intro σ1 L1
    exact hb ρ1 σ1 H1 h1 ls1 E f hd' R1 L1 hm λ ρ2 H2 x2 R2=>hQ ρ2 H2 (x1.trans R1 x2) R2
  | bk ls1=>cases hm;exact hQ ρ1 H1 x1 R1
  | ct ls1=>cases hm;exact hQ ρ1 H1 x1 R1
  | rt d=>cases hm;exact hQ ρ1 H1 x1 R1
noncomputable def Pk:MS:=λ ls hd=>some (.bk ls,hd)
noncomputable def Qy:MS:=λ ls hd=>some (.ct ls,hd)
noncomputable def FA(m:ME):MS:=λ ls hd=>(m ls hd).bind λ p=>some (.nx ls,p.2)
theorem N2{t:TE}{m:ME}(h:RE K t m):RS K (JC t) (FA m):=by
  intro ρ σ H hd ls E f hd' hR hL hm hQ
  obtain⟨⟨d1,h1⟩,e1,hm⟩:=Option.bind_eq_some_iff.mp hm
  cases hm
  exact h ρ σ H hd ls _ d1 _ hR hL e1 λ ρ1 H1 v x1 R1 r1=>hQ ρ1 H1 x1 R1 σ (hL.ext hR x1)
noncomputable def AM(m:ME):MS:=λ ls hd=>(m ls hd).bind λ p=>some (.rt p.1,p.2)
theorem HV{t:TE}{m:ME}(h:RE K t m):RS K (FL t) (AM m):=by
  intro ρ σ H hd ls E f hd' hR hL hm hQ
  obtain⟨⟨d1,h1⟩,e1,hm⟩:=Option.bind_eq_some_iff.mp hm
  cases hm
  exact h ρ σ H hd ls _ d1 _ hR hL e1 λ ρ1 H1 v x1 R1 r1=>hQ ρ1 H1 x1 R1 v r1
noncomputable def Qv:MS:=λ _ hd=>some (.rt (.im .non),hd)
noncomputable def Ab(c:MT)(a b:MS):MS:=λ ls hd=>(c ls hd).bind λ p=>if p.1=true then a ls p.2 else b ls p.2
theorem MC{tc:TT}{t u:TS}{c:MT}{a b:MS}(hc:RT K tc c)(ha:RS K t a)(hb:RS K u b):RS K (HM tc t u) (Ab c a b):=by
  intro ρ σ H hd ls E f hd' hR hL hm hQ
  obtain⟨⟨d1,h1⟩,e1,hm⟩:=Option.bind_eq_some_iff.mp hm
  refine hc ρ σ H hd ls _ d1 h1 hR hL e1 λ ρ1 H1 x1 R1=>?_
  cases d1 with
  | true=>
    rw[if_pos rfl]at hm ⊢
    exact ha ρ1 σ H1 h1 ls E f hd' R1 (hL.ext hR x1) hm λ ρ2 H2 x2 R2=>hQ ρ2 H2 (x1.trans R1 x2) R2
  | false=>
    rw[if_neg Bool.false_ne_true]at hm ⊢
    exact hb ρ1 σ H1 h1 ls E f hd' R1 (hL.ext hR x1) hm λ ρ2 H2 x2 R2=>hQ ρ2 H2 (x1.trans R1 x2) R2
noncomputable def CQ:MS:=λ _ _=>none
theorem HX:RS K FZ CQ:=by
  intro ρ σ H hd ls E f hd' hR hL hm hQ
  cases hm
noncomputable abbrev MG:=D->Ls->Hd->Option Ls
noncomputable abbrev MGs:=List D->Ls->Hd->Option Ls
noncomputable def RGt(K:PySem.W.Frag)(t:TG)(m:MG):Prop:=∀ (ρ:List Addr) (σ:St) (H:Hp) (hd:Hd) (ls ls':Ls) (d:D) (v:V) (Q:St->Hp->Prop),RH K ρ H hd->RL K ρ H ls σ->RD K ρ H d v->m d ls hd=some ls' ->
  (∀ σ',RL K ρ H ls' σ'->Q σ' H)->t v σ H Q
noncomputable def IL(K:PySem.W.Frag)(t:TGs)(m:MGs):Prop:=∀ (ρ:List Addr) (σ:St) (H:Hp) (hd:Hd) (ls ls':Ls) (d:List D) (v:List V) (Q:St->Hp->Prop),RH K ρ H hd->RL K ρ H ls σ->RDs K ρ H d v->m d ls hd=some ls' ->
  (∀ σ',RL K ρ H ls' σ'->Q σ' H)->t v σ H Q
theorem RL.set{ls:Ls}{σ:St}{d:D}{v:V}(h:RL K ρ H ls σ)(i:Nat)(r:RD K ρ H d v):RL K ρ H (ls.set i (some d)) (σ.set i (some v)):=by
  refine⟨by simp[h.len],λ j e q=>?_⟩
  by_cases hij:i=j
  . subst hij
    have hl:i < ls.length:=by
      have:=(List.getElem?_eq_some_iff.mp q).1
      simpa using this
    rw[List.getElem?_set_self hl]at q
    cases q
    exact⟨v,by rw[List.getElem?_set_self (by rw[<- h.len];exact hl)],r⟩
  . rw[List.getElem?_set_ne hij]at q
    obtain⟨w,e1,e2⟩:=h.ob j e q
    exact⟨w,by rw[List.getElem?_set_ne hij];exact e1,e2⟩
noncomputable def Av(i:Nat):MG:=λ d ls _=>some (ls.set i (some d))
theorem IX{i:Nat}:RGt K (Fv i) (Av i):=by
  intro ρ σ H hd ls ls' d v Q hR hL hd hm hQ
  cases hm
  exact hQ _ (hL.set i hd)
noncomputable def EA:MGs:=λ ds ls _=>match ds with
  | []=>some ls
  | _=>none
noncomputable def Bp(m:MG)(r:MGs):MGs:=λ ds ls hd=>match ds with
  | d :: es=>(m d ls hd).bind λ ls1=>r es ls1 hd
  | []=>none
theorem NB:IL K Lu EA:=by
  intro ρ σ H hd ls ls' d v Q hR hL hd hm hQ
  cases d with
  | nil=>
    simp only[RDs]at hd;subst hd
    cases hm
    exact⟨rfl,hQ _ hL⟩
  | cons a b=>cases hm
theorem L9{t:TG}{u:TGs}{m:MG}{r:MGs}(h:RGt K t m)(h':IL K u r):IL K (Jf t u) (Bp m r):=by
  intro ρ σ H hd ls ls' d v Q hR hL hd hm hQ
  cases d with
  | nil=>cases hm
  | cons a b=>
    simp only[RDs]at hd
    obtain⟨x,y,rfl,h1,h2⟩:=hd
    obtain⟨ls1,e1,e2⟩:=Option.bind_eq_some_iff.mp hm
    exact⟨x,y,rfl,h ρ σ H _ ls ls1 a x _ hR hL h1 e1 λ σ1 L1=>h' ρ σ1 H _ ls1 ls' b y Q hR L1 h2 e2 hQ⟩
noncomputable def E9(n:Nat)(r:MGs):MG:=λ d ls hd=>(Ag d).bind λ ds=>if ds.length=n then r ds ls hd else none
theorem Om{n:Nat}{u:TGs}{r:MGs}(h':IL K u r):RGt K (Je K n u) (E9 n r):=by
  intro ρ σ H hd ls ls' d v Q hR hL hd hm hQ
  obtain⟨ds,e1,hm⟩:=Option.bind_eq_some_iff.mp hm
  split at hm
  . next c=>
    obtain⟨a,xs,rfl,q,rr⟩:=hd.tup e1
    exact⟨a,xs,rfl,q,by rw[rr.len];exact c,h' ρ σ H _ ls ls' ds xs Q hR hL rr hm hQ⟩
  . cases hm
noncomputable def Lj(m:ME)(g:MG):MS:=λ ls hd=>(m ls hd).bind λ p=>(g p.1 ls p.2).map λ ls'=>(.nx ls',p.2)
theorem Of{t:TE}{m:ME}{g:TG}{n:MG}(h:RE K t m)(hg:RGt K g n):RS K (GA t g) (Lj m n):=by
  intro ρ σ H hd ls E f hd' hR hL hm hQ
  obtain⟨⟨d1,h1⟩,e1,hm⟩:=Option.bind_eq_some_iff.mp hm
  obtain⟨ls',e2,e3⟩:=Option.map_eq_some_iff.mp hm
  cases e3
  exact h ρ σ H hd ls _ d1 _ hR hL e1 λ ρ1 H1 v x1 R1 r1=>hg ρ1 σ H1 _ ls ls' d1 v _ R1 (hL.ext hR x1) r1 e2 λ σ' L'=>hQ ρ1 H1 x1 R1 σ' L'
noncomputable abbrev Ac(i:Nat)(m:ME):MS:=Lj m (Av i)
noncomputable def FS(ix:List Nat)(ma:MA):MS:=λ ls hd=>(ma ls hd).bind λ p=>if p.1.length=ix.length then some (.nx ((ix.zip p.1).foldl (λ l q=>l.set q.1 (some q.2)) ls),p.2)else none
theorem Od{i j:Nat}{t:TA}{m:MA}(h:RA K t m):RS K (Kp i j t) (FS [i,j] m):=by
  intro ρ σ H hd ls E f hd' hR hL hm hQ
  obtain⟨⟨d1,h1⟩,e1,hm⟩:=Option.bind_eq_some_iff.mp hm
  dsimp only at hm
  split at hm
  . next c=>
    cases hm
    refine h ρ σ H hd ls _ d1 _ hR hL e1 λ ρ1 H1 v x1 R1 r1=>?_
    match d1,c,r1,hQ with
    | [a,b],_,r1,hQ=>
      simp only[RDs]at r1
      obtain⟨x,r,rfl,ra,y,r2,rfl,rb,rfl⟩:=r1
      exact⟨x,y,rfl,hQ ρ1 H1 x1 R1 _ (((hL.ext hR x1).set i ra).set j rb)⟩
  . cases hm
noncomputable def Fm(i j k:Nat)(ma:MA):MS:=FS [k,j,i] (λ ls hd=>(ma ls hd).map λ p=>(p.1.reverse,p.2))
theorem N0{i j k:Nat}{t:TA}{m:MA}(h:RA K t m):RS K (JB i j k t) (Fm i j k m):=by
  intro ρ σ H hd ls E f hd' hR hL hm hQ
  obtain⟨⟨d1,h1⟩,e1,hm⟩:=Option.bind_eq_some_iff.mp hm
  obtain⟨⟨d2,h2⟩,e2,e3⟩:=Option.map_eq_some_iff.mp e1
  cases e3
  dsimp only at hm
  split at hm
  . next c=>
    cases hm
    refine h ρ σ H hd ls _ d2 _ hR hL e2 λ ρ1 H1 v x1 R1 r1=>?_
    have c:d2.length=3:=by simpa using c
    match d2,c,r1,hQ with
    | [a,b,e],_,r1,hQ=>
      simp only[RDs]at r1
      obtain⟨x,r,rfl,ra,y,r2,rfl,rb,z,r3,rfl,rc,rfl⟩:=r1
      exact⟨x,y,z,rfl,hQ ρ1 H1 x1 R1 _ ((((hL.ext hR x1).set k rc).set j rb).set i ra)⟩
  . cases hm
noncomputable abbrev Gd:=List (Nat × List D)
noncomputable abbrev MI:=Ls->Hd->Option ((List D × Gd) × Hd)
noncomputable def GOk(hd:Hd)(g:Gd):Prop:=∀ p ∈ g,hd[p.1]? = some (.lst p.2)
@[simp] theorem Bs(hd:Hd):GOk hd []:=λ p h=>by cases h
noncomputable def IJ(K:PySem.W.Frag)(ρ:List Addr)(H:Hp)(J:It)(ds:List D)(g:Gd):Prop:=∀ (ρ2:List Addr) (H2:Hp) (hd2:Hd),Ext ρ H ρ2 H2->RH K ρ2 H2 hd2->GOk hd2 g ->
  ∀ i:Nat,(i < ds.length->J.go i H2/\∀ x H3,J.yld i H2 x H3->∃ ρ3 d,Ext ρ2 H2 ρ3 H3/\ρ3=ρ2/\RH K ρ3 H3 hd2/\ds[i]? = some d/\RD K ρ3 H3 d x)/\(i=ds.length->J.stop i H2)
noncomputable def RIt(K:PySem.W.Frag)(t:TI)(m:MI):Prop:=∀ (ρ:List Addr) (σ:St) (H:Hp) (hd:Hd) (ls:Ls) (Q:It->Hp->Prop) (d:List D) (g:Gd) (hd':Hd),RH K ρ H hd->RL K ρ H ls σ->m ls hd=some ((d,g),hd') ->
  (∀ ρ' H' J,Ext ρ H ρ' H'->RH K ρ' H' hd'->GOk hd' g->IJ K ρ' H' J d g->Q J H')->t σ H Q
theorem Iz{a:Addr}{xs:List V}{ds:List D}(hR:RH K ρ H hd)(q:SqT K H a xs)(r:RDs K ρ H ds xs)(g:Gd):IJ K ρ H (Itt K a) ds g:=by
  intro ρ2 H2 hd2 x2 R2 _ i
  have q2:=(x2.grow hR).sq q
  have r2:=r.ext hR x2
  have uniq:∀ ys,SqT K H2 a ys->True:=λ _ _=>trivial
  refine⟨λ hi=>?_,λ hi=>⟨xs,q2,by rw[r2.len,hi];exact Nat.le_refl _⟩⟩
  have e:ds[i]? = some ds[i]:=by simp[hi]
  obtain⟨x,x1,x3⟩:=r2.get e
  refine⟨⟨xs,x,q2,x1⟩,λ y H3 ⟨e3,hy⟩=>?_⟩
  subst e3
  have:=hy xs q2
  rw[x1]at this
  cases this
  exact⟨ρ2,_,.refl,rfl,R2,e,x3⟩
noncomputable def DQ(m:ME):MI:=λ ls hd=>(m ls hd).bind λ p=>(Ag p.1).map λ ds=>((ds,[]),p.2)
theorem Ol{t:TE}{m:ME}(h:RE K t m):RIt K (Jb K t) (DQ m):=by
  intro ρ σ H hd ls Q d g hd' hR hL hm hQ
  obtain⟨⟨d1,h1⟩,e1,hm⟩:=Option.bind_eq_some_iff.mp hm
  obtain⟨ds,e2,e3⟩:=Option.map_eq_some_iff.mp hm
  cases e3
  refine h ρ σ H hd ls _ d1 _ hR hL e1 λ ρ1 H1 v x1 R1 r1=>?_
  obtain⟨a,xs,rfl,q,r⟩:=r1.tup e2
  exact⟨a,rfl,⟨xs,q⟩,hQ ρ1 H1 _ x1 R1 (Bs _) (Iz R1 q r [])⟩
noncomputable def Df(m:ME):MI:=λ ls hd=>(m ls hd).bind λ p=>match p.1 with
  | .mu n=>match p.2[n]? with
    | some (.lst ds)=>some ((ds,[(n,ds)]),p.2)
    | _=>none
  | .ro ns=>some ((ns.map λ n=>.im (.int n),[]),p.2)
  | _=>none
theorem NA{t:TE}{m:ME}(h:RE K t m):RIt K (Gz K t) (Df m):=by
  intro ρ σ H hd ls Q d g hd' hR hL hm hQ
  obtain⟨⟨d1,h1⟩,e1,hm⟩:=Option.bind_eq_some_iff.mp hm
  dsimp only at hm
  split at hm
  . next n=>
    split at hm
    . next ds q=>
      cases hm
      refine h ρ σ H hd ls _ _ _ hR hL e1 λ ρ1 H1 v x1 R1 r1=>?_
      simp only[RD]at r1
      obtain⟨a,hn,rfl⟩:=r1
      obtain⟨xs,e2,e3⟩:=R1.lst hn q
      refine⟨a,rfl,⟨xs,SqL.of e2⟩,hQ ρ1 H1 _ x1 R1 (λ p z=>by simp at z;subst z;exact q) ?_⟩
      intro ρ2 H2 hd2 x2 R2 G2 i
      have q2:=G2 (n,d) (by simp)
      have hn2:ρ2[n]? = some a:=by
        obtain⟨r,rfl,_⟩:=x2.pre
        rw[List.getElem?_append_left (List.getElem?_eq_some_iff.mp hn).1];exact hn
      obtain⟨ys,e4,e5⟩:=R2.lst hn2 q2
      refine⟨λ hi=>?_,λ hi=>⟨ys,SqL.of e4,by rw[e5.len,hi];exact Nat.le_refl _⟩⟩
      have e:d[i]? = some d[i]:=by simp[hi]
      obtain⟨x,y1,y2⟩:=e5.get e
      refine⟨⟨ys,x,SqL.of e4,y1⟩,λ y H3 ⟨e6,hy⟩=>?_⟩
      subst e6
      have:=hy ys (SqL.of e4)
      rw[y1]at this
      cases this
      exact⟨ρ2,_,.refl,rfl,R2,e,y2⟩
    . cases hm
  . next ns=>
    cases hm
    refine h ρ σ H hd ls _ _ _ hR hL e1 λ ρ1 H1 v x1 R1 r1=>?_
    simp only[RD]at r1
    obtain⟨a,rfl,q⟩:=r1
    refine⟨a,rfl,⟨_,q.sq⟩,hQ ρ1 H1 _ x1 R1 (Bs _) ?_⟩
    intro ρ2 H2 hd2 x2 R2 G2 i
    have q2:=(q.grow (x2.grow R1)).sq
    have e5:RDs K ρ2 H2 (ns.map λ n=>.im (.int n)) (ns.map V.int):=GQ
    refine⟨λ hi=>?_,λ hi=>⟨_,q2,by rw[e5.len,hi];exact Nat.le_refl _⟩⟩
    have e:(ns.map λ n=>D.im (.int n))[i]? = some ((ns.map λ n=>D.im (.int n))[i]):=by simp[hi]
    obtain⟨x,y1,y2⟩:=e5.get e
    refine⟨⟨_,x,q2,y1⟩,λ y H3 ⟨e6,hy⟩=>?_⟩
    subst e6
    have:=hy _ q2
    rw[y1]at this
    cases this
    exact⟨ρ2,_,.refl,rfl,R2,e,y2⟩
  . cases hm
noncomputable def Pi(ml:MA):MI:=λ ls hd=>(ml ls hd).map λ p=>((p.1,[]),p.2)
noncomputable def BD(lo:Int):Nat->List D
  | 0=>[]
  | n + 1=>.im (.int lo) :: BD (lo + 1) n
@[simp] theorem Fd(lo:Int)(n:Nat):(BD lo n).length=n:=by
  induction n generalizing lo with
  | zero=>rfl
  | succ n ih=>simp[BD,ih]
theorem JK{n:Nat}:∀ {lo:Int} {i:Nat},i < n->(BD lo n)[i]? = some (.im (.int (lo + i))):=by
  induction n with
  | zero=>intro lo i h;omega
  | succ n ih=>
    intro lo i h
    cases i with
    | zero=>simp[BD]
    | succ i=>
      simp only[BD,List.getElem?_cons_succ]
      rw[ih (by omega)]
      congr 3
      push_cast
      omega
theorem J0{lo:Int}{n:Nat}{g:Gd}:IJ K ρ H (Itr lo n) (BD lo n) g:=by
  intro ρ2 H2 hd2 x2 R2 G2 i
  refine⟨λ hi=>?_,λ hi=>by rw[hi,Fd];exact Nat.le_refl _⟩
  rw[Fd]at hi
  refine⟨hi,λ x H3 ⟨e1,e2⟩=>?_⟩
  subst e1 e2
  exact⟨ρ2,_,.refl,rfl,R2,JK hi,by simp[RD,RI]⟩
open Classical in
noncomputable def GL(m:MA):MI:=λ ls hd=>(m ls hd).bind λ p=>match p.1 with
  | [.im (.int j)]=>if GB j then some ((BD 0 j.toNat,[]),p.2)else none
  | _=>none
theorem N9{t:TA}{m:MA}(h:RA K t m):RIt K (Jc t) (GL m):=by
  intro ρ σ H hd ls Q d g hd' hR hL hm hQ
  obtain⟨⟨d1,h1⟩,e1,hm⟩:=Option.bind_eq_some_iff.mp hm
  dsimp only at hm
  split at hm
  . next j=>
    split at hm
    . next c=>
      cases hm
      refine h ρ σ H hd ls _ _ _ hR hL e1 λ ρ1 H1 v x1 R1 r1=>?_
      simp only[RDs,RD,RI]at r1
      obtain⟨x,r,rfl,rfl,rfl⟩:=r1
      exact⟨j,rfl,c.1,c.2,hQ ρ1 H1 _ x1 R1 (Bs _) J0⟩
    . cases hm
  . cases hm
open Classical in
noncomputable def Ma(m:MA):MI:=λ ls hd=>(m ls hd).bind λ p=>match p.1 with
  | [.im (.int i),.im (.int j)]=>if L7 i j then some ((BD i (j - i).toNat,[]),p.2)else none
  | _=>none
open Classical in
noncomputable def BQ(n:MG)(b:MS)(g:Gd):List D->Ls->Hd->Option (Fl × Hd)
  | [],ls,hd=>some (.nx ls,hd)
  | d :: r,ls,hd=>(n d ls hd).bind λ ls1=>(b ls1 hd).bind λ p=>match p.1 with
    | .nx ls2=>if GOk p.2 g then BQ n b g r ls2 p.2 else none
    | .ct ls2=>if GOk p.2 g then BQ n b g r ls2 p.2 else none
    | .bk ls2=>some (.nx ls2,p.2)
    | .rt d=>some (.rt d,p.2)
noncomputable def DR(mi:MI)(n:MG)(b:MS):MS:=λ ls hd=>(mi ls hd).bind λ p=>BQ n b p.1.2 p.1.1 ls p.2
theorem Oe{wi:TI}{g:TG}{tb:TS}{mi:MI}{n:MG}{b:MS}(hi:RIt K wi mi)(hg:RGt K g n)(hb:RS K tb b):RS K (Ks wi g tb) (DR mi n b):=by
  intro ρ σ H hd ls E f hd' hR hL hm hQ
  obtain⟨⟨⟨ds,gd⟩,h1⟩,e1,hm⟩:=Option.bind_eq_some_iff.mp hm
  refine hi ρ σ H hd ls _ ds gd h1 hR hL e1 λ ρ1 H1 J x1 R1 G1 Y=>?_
  dsimp only at hm
  refine⟨λ i m σ2 H2=>m=ds.length - i/\i <= ds.length/\∃ ρ2 ls2 hd2,Ext ρ1 H1 ρ2 H2/\RH K ρ2 H2 hd2/\RL K ρ2 H2 ls2 σ2/\GOk hd2 gd/\BQ n b gd (ds.drop i) ls2 hd2=some (f,hd'),
    ⟨ds.length,by simp,Nat.zero_le _,ρ1,ls,h1,.refl,R1,hL.ext hR x1,G1,by simpa using hm⟩,?_⟩
  rintro i m σ2 H2 ⟨rfl,hi,ρ2,ls2,hd2,x2,R2,L2',G2,hm2⟩
  obtain⟨Y1,Y2⟩:=Y ρ2 H2 hd2 x2 R2 G2 i
  by_cases hlt:i < ds.length
  . obtain⟨go,Y1⟩:=Y1 hlt
    have ed:ds.drop i=ds[i] :: ds.drop (i + 1):=List.drop_eq_getElem_cons hlt
    rw[ed]at hm2
    unfold BQ at hm2
    obtain⟨ls3,e3,hm2⟩:=Option.bind_eq_some_iff.mp hm2
    obtain⟨⟨fl,hd4⟩,e4,hm2⟩:=Option.bind_eq_some_iff.mp hm2
    refine .inr ⟨go,λ σ' H'=>∃ ρ2 ls2 hd2,Ext ρ1 H1 ρ2 H'/\RH K ρ2 H' hd2/\RL K ρ2 H' ls2 σ'/\GOk hd2 gd/\BQ n b gd (ds.drop (i + 1)) ls2 hd2=some (f,hd'),λ σ' H' z=>⟨ds.length - (i + 1),by omega,rfl,hlt,z⟩,λ x H3 y=>?_⟩
    obtain⟨ρ3,d3,x3,rfl,R3,e5,r3⟩:=Y1 x H3 y
    have e6:d3=ds[i]:=by
      have:ds[i]? = some ds[i]:=by simp[hlt]
      rw[this]at e5;exact(Option.some.inj e5).symm
    subst e6
    refine hg ρ3 σ2 H3 hd2 ls2 ls3 _ x _ R3 (L2'.ext R2 x3) r3 e3 λ σ4 L4=>?_
    refine hb ρ3 σ4 H3 hd2 ls3 _ fl hd4 R3 L4 e4 λ ρ5 H5 x5 R5=>?_
    have x15:=(x2.trans R2 x3).trans R3 x5
    cases fl with
    | nx ls5=>
      intro σ5 L5
      dsimp only at hm2
      split at hm2
      . next c=>exact⟨ρ5,ls5,hd4,x15,R5,L5,c,hm2⟩
      . cases hm2
    | ct ls5=>
      intro σ5 L5
      dsimp only at hm2
      split at hm2
      . next c=>exact⟨ρ5,ls5,hd4,x15,R5,L5,c,hm2⟩
      . cases hm2
    | bk ls5=>
      intro σ5 L5
      cases hm2
      exact hQ ρ5 H5 (x1.trans R1 x15) R5 σ5 L5
    | rt d5=>
      intro v5 r5
      cases hm2
      exact hQ ρ5 H5 (x1.trans R1 x15) R5 v5 r5
  . have e:i=ds.length:=by omega
    subst e
    rw[List.drop_length]at hm2
    unfold BQ at hm2
    cases hm2
    exact .inl ⟨Y2 rfl,hQ ρ2 H2 (x1.trans R1 x2) R2 σ2 L2'⟩
open Classical in
noncomputable def BN(n:MG)(c:MT)(m:ME)(g:Gd):List D->Ls->Hd->Option (List D × Hd)
  | [],_,hd=>some ([],hd)
  | d :: r,ls,hd=>(n d ls hd).bind λ ls1=>(c ls1 hd).bind λ p=>if p.1=true then(m ls1 p.2).bind λ q=>if GOk q.2 g then(BN n c m g r ls1 q.2).map λ z=>(q.1 :: z.1,z.2)else none else if GOk p.2 g then BN n c m g r ls1 p.2 else none
noncomputable def De(k:Nat)(ix:List Nat)(ls:Ls):Ls:=List.replicate k none ++ ix.map λ i=>(ls[i]?).join
open Classical in
noncomputable def CG(k:Nat)(ix:List Nat)(mi:MI)(n:MG)(c:MT)(m:ME):MA:=λ ls hd=>(mi ls hd).bind λ p=>if Bi p.1.1.length then BN n c m p.1.2 p.1.1 (De k ix ls) p.2 else none
theorem OL{k:Nat}{ix:List Nat}{ls:Ls}{σ:St}(h:RL K ρ H ls σ):RL K ρ H (De k ix ls) (FV k ix σ):=by
  refine⟨by simp[De,FV],λ i d e=>?_⟩
  unfold De at e
  unfold FV
  by_cases hi:i < k
  . rw[List.getElem?_append_left (by simpa using hi),List.getElem?_replicate]at e
    split at e <;> cases e
  . have hi':k <= i:=Nat.not_lt.mp hi
    rw[List.getElem?_append_right (by simpa using hi'),List.length_replicate,List.getElem?_map]at e ⊢
    cases q:ix[i - k]? with
    | none=>rw[q]at e;cases e
    | some j=>
      rw[q]at e
      simp only[Option.map_some,Option.some.injEq]at e ⊢
      have e5:ls[j]? = some (some d):=by
        cases w:ls[j]? with
        | none=>rw[w]at e;cases e
        | some z=>rw[w]at e;simpa using e
      obtain⟨v,e6,e7⟩:=h.ob j d e5
      exact⟨v,by rw[e6];rfl,e7⟩
theorem N7{k:Nat}{ix:List Nat}{wi:TI}{g:TG}{tf:TT}{te:TE}{mi:MI}{n:MG}{c:MT}{m:ME}(hi:RIt K wi mi)(hg:RGt K g n)(hf:RT K tf c)(he:RE K te m):RN K (JF k ix wi g tf te) (CG k ix mi n c m):=by
  intro ρ σ H hd ls Q out hd' hR hL hm hQ
  obtain⟨⟨⟨ds,gd⟩,h1⟩,e1,hm⟩:=Option.bind_eq_some_iff.mp hm
  dsimp only at hm
  split at hm
  . next hlen=>
    have hlen:ds.length <= sizeLine:=hlen
    refine hi ρ σ H hd ls _ ds gd h1 hR hL e1 λ ρ1 H1 J x1 R1 G1 Y=>?_
    intro Da hDa
    obtain⟨R1',x1'⟩:=R1.hid (ho:=.lst []) hDa
    have oD:Da ∉ ρ1:=R1.out hDa
    have nD:H Da=none:=x1.none hR hDa R1
    refine⟨λ i mm σ2 ys H2=>mm=ds.length - i/\i <= ds.length/\∃ ρ2 ls2 hd2 es rest,Ext ρ1 (upd H1 Da (.lst ys)) ρ2 H2/\Ext ρ1 H1 ρ2 H2/\Da ∉ ρ2/\H2 Da=some (.lst ys)/\RH K ρ2 H2 hd2/\RL K ρ2 H2 ls2 σ2/\RDs K ρ2 H2 es ys/\es.length <= i/\GOk hd2 gd/\BN n c m gd (ds.drop i) ls2 hd2=some (rest,hd')/\out=es ++ rest,
      ⟨ds.length,by simp,Nat.zero_le _,ρ1,_,h1,[],out,.refl,x1',oD,AQ,R1',(OL ((hL.ext hR x1).ext R1 x1')),.nil,Nat.le_refl _,G1,by simpa using hm,rfl⟩,?_⟩
    rintro i mm σ2 ys H2 ⟨rfl,hi,ρ2,ls2,hd2,es,rest,x2',x2,oD2,hD2,R2,L2',r2,hle,G2,hm2,rfl⟩
    refine⟨hD2,?_⟩
    obtain⟨Y1,Y2⟩:=Y ρ2 H2 hd2 x2 R2 G2 i
    by_cases hlt:i < ds.length
    . obtain⟨go,Y1⟩:=Y1 hlt
      have ed:ds.drop i=ds[i] :: ds.drop (i + 1):=List.drop_eq_getElem_cons hlt
      rw[ed]at hm2
      unfold BN at hm2
      obtain⟨ls3,e3,hm2⟩:=Option.bind_eq_some_iff.mp hm2
      obtain⟨⟨bb,hd4⟩,e4,hm2⟩:=Option.bind_eq_some_iff.mp hm2
      refine .inr ⟨go,Nat.lt_of_le_of_lt (by rw[r2.len];exact hle) (by omega),λ σ' ys' H'=>∃ ρ2 ls2 hd2 es' rest',Ext ρ1 (upd H1 Da (.lst ys')) ρ2 H'/\Ext ρ1 H1 ρ2 H'/\Da ∉ ρ2/\H' Da=some (.lst ys')/\RH K ρ2 H' hd2/\RL K ρ2 H' ls2 σ'/\RDs K ρ2 H' es' ys'/\es'.length <= i + 1/\GOk hd2 gd/\BN n c m gd (ds.drop (i + 1)) ls2 hd2=some (rest',hd')/\es ++ rest=es' ++ rest',λ σ' ys' H' z=>⟨ds.length - (i + 1),by omega,rfl,hlt,z⟩,λ x H3 y=>?_⟩
      obtain⟨ρ3,d3,x3,rfl,R3,e5,r3⟩:=Y1 x H3 y
      have e6:d3=ds[i]:=by
        have:ds[i]? = some ds[i]:=by simp[hlt]
        rw[this]at e5;exact(Option.some.inj e5).symm
      subst e6
      refine hg ρ3 σ2 H3 hd2 ls2 ls3 _ x _ R3 (L2'.ext R2 x3) r3 e3 λ σ4 L4=>?_
      refine hf ρ3 σ4 H3 hd2 ls3 _ bb hd4 R3 L4 e4 λ ρ5 H5 x5 R5=>?_
      have hD5:H5 Da=some (.lst ys):=x5.keep Da _ (x3.keep Da _ hD2 oD2 nt) oD2 nt
      have out5:Da ∉ ρ5:=by
        obtain⟨r,rfl,fr⟩:=x5.pre
        intro z
        rcases List.mem_append.mp z with z|z
        . exact oD2 z
        . have:=fr _ z
          rw[x3.keep Da _ hD2 oD2 nt]at this;cases this
      cases bb with
      | false=>
        rw[if_neg Bool.false_ne_true]at hm2 ⊢
        have y25:=x3.trans R3 x5
        split at hm2
        . next g5=>exact⟨ρ5,ls3,hd4,es,rest,x2'.trans R2 y25,(x2.trans R2 y25),out5,hD5,R5,L4.ext R3 x5,(r2.ext R2 y25),by omega,g5,hm2,rfl⟩
        . cases hm2
      | true=>
        rw[if_pos rfl]at hm2 ⊢
        obtain⟨⟨z,hd6⟩,e6,hm2⟩:=Option.bind_eq_some_iff.mp hm2
        obtain⟨g6,hm2⟩:GOk hd6 gd/\((BN n c m gd (ds.drop (i + 1)) ls3 hd6).map λ q=>(z :: q.1,q.2))=some (rest,hd'):=by
          dsimp only at hm2
          split at hm2
          . next g6=>exact⟨g6,hm2⟩
          . cases hm2
        obtain⟨⟨zs,hd7⟩,e7,e8⟩:=Option.map_eq_some_iff.mp hm2
        cases e8
        refine he ρ5 σ4 H5 hd4 ls3 _ z hd6 R5 (L4.ext R3 x5) e6 λ ρ6 H6 v6 x6 R6 r6=>?_
        have hD6:H6 Da=some (.lst ys):=x6.keep Da _ hD5 out5 nt
        have out6:Da ∉ ρ6:=by
          obtain⟨r,rfl,fr⟩:=x6.pre
          intro z
          rcases List.mem_append.mp z with z|z
          . exact out5 z
          . have:=fr _ z
            rw[hD5]at this;cases this
        refine⟨hD6,?_⟩
        have y26:=(x3.trans R3 x5).trans R5 x6
        have gr:Grow H6 (upd H6 Da (.lst (ys ++ [v6]))):=Grow.refl.put (.lst hD6)
        have R7:=R6.hput (ho:=.lst (ys ++ [v6])) out6 hD6
        have x12:=x2.trans R2 y26
        have ext7:Ext ρ1 H1 ρ6 (upd H6 Da (.lst (ys ++ [v6]))):=⟨x12.pre,λ b o q nb t=>by
          have:b ≠ Da:=Aa q hDa
          rw[AI this];exact x12.keep b o q nb t,λ b ps q=>by
          have:b ≠ Da:=Aa q hDa
          rw[AI this];exact x12.tab b ps q⟩
        have ext8:Ext ρ1 (upd H1 Da (.lst (ys ++ [v6]))) ρ6 (upd H6 Da (.lst (ys ++ [v6]))):=by
          obtain⟨r,er,fr⟩:=x12.pre
          refine⟨⟨r,er,λ b hb=>?_⟩,λ b o q nb t=>?_,λ b ps q=>?_⟩
          . have:b ≠ Da:=λ z=>out6 (by rw[er,<- z];exact List.mem_append_right _ hb)
            rw[AI this];exact fr b hb
          . by_cases hb:b=Da
            . subst hb;rw[AQ]at q ⊢;exact q
            . rw[AI hb]at q ⊢;exact x12.keep b o q nb t
          . by_cases hb:b=Da
            . subst hb;rw[AQ]at q;cases q
            . rw[AI hb]at q ⊢;exact x12.tab b ps q
        refine⟨ρ6,ls3,hd6,es ++ [z],zs,ext8,ext7,out6,AQ,R7,?_,?_,by simp;omega,g6,e7,by simp⟩
        . have L6:=(L4.ext R3 x5).ext R5 x6
          exact⟨L6.len,λ i d e=>let ⟨v,a,b⟩:=L6.ob i d e;⟨v,a,by simpa using b.mono gr []⟩⟩
        . have:=((r2.ext R2 y26).app (.cons r6 .nil)).mono gr []
          simpa using this
    . have e:i=ds.length:=by omega
      subst e
      rw[List.drop_length]at hm2
      unfold BN at hm2
      cases hm2
      refine .inl ⟨Y2 rfl,?_⟩
      exact hQ ρ2 H2 Da ys (x1.trans R1 x2) R2 nD oD2 hD2 (by simpa using r2)
  . cases hm
end
end L2
namespace L2
open PySem PySem.Spec PyProof.Rows
mutual
noncomputable def clD(w:Nat):D->Bool
  | .im _=>true
  | .mu n=>decide (n < w)
  | .tm ds=>BI w ds
  | .ro _=>true
noncomputable def BI(w:Nat):List D->Bool
  | []=>true
  | d :: ds=>clD w d && BI w ds
end
noncomputable def Dl(w:Nat):List (Key × D)->Bool
  | []=>true
  | d :: ds=>clD w d.2 && Dl w ds
noncomputable def clO(w:Nat):MO->Bool
  | .lst ds=>BI w ds
  | .dic ds=>Dl w ds
section
variable{K:PySem.W.Frag}{ρ ρ' ρ1:List Addr}{H H' H1:Hp}{hd hd' h1 h2:Hd}
mutual
theorem RD.take(w:Nat):∀ {d:D} {v:V},RD K ρ H d v->clD w d=true->RD K (ρ.take w) H d v
  | .im i,v,h,_=>by simp only[RD]at h ⊢;exact h
  | .mu n,v,h,c=>by
    simp only[RD]at h ⊢
    obtain⟨a,e,q⟩:=h
    exact⟨a,by rw[List.getElem?_take_of_lt (by simpa [clD]using c)];exact e,q⟩
  | .tm ds,v,h,c=>by
    simp only[RD]at h ⊢
    obtain⟨a,xs,e,q,z⟩:=h
    exact⟨a,xs,e,q,RDs.take' w z (by simpa [clD]using c)⟩
  | .ro ns,v,h,c=>by simp only[RD]at h ⊢;exact h
theorem RDs.take'(w:Nat):∀ {d:List D} {v:List V},RDs K ρ H d v->BI w d=true->RDs K (ρ.take w) H d v
  | [],v,h,_=>by simpa only[RDs]using h
  | d :: ds,v,h,c=>by
    simp only[RDs]at h ⊢
    obtain⟨x,r',e,q,z⟩:=h
    have c:clD w d=true/\BI w ds=true:=by simpa [BI]using c
    exact⟨x,r',e,q.take w c.1,RDs.take' w z c.2⟩
end
theorem RKs.take(w:Nat):∀ {d:List (Key × D)} {v:List (Key × V)},RKs K ρ H d v->Dl w d=true->RKs K (ρ.take w) H d v
  | [],v,h,_=>by simpa only[RKs]using h
  | d :: ds,v,h,c=>by
    simp only[RKs]at h ⊢
    obtain⟨x,r',e,q1,q,z⟩:=h
    have c:clD w d.2=true/\Dl w ds=true:=by simpa [Dl]using c
    exact⟨x,r',e,q1,q.take w c.1,RKs.take w z c.2⟩
theorem RC.take(w:Nat){o:MO}{ho:HO}(h:RC K ρ H o ho)(c:clO w o=true):RC K (ρ.take w) H o ho:=by
  cases o with
  | lst ds=>obtain⟨xs,e,q⟩:=h;exact⟨xs,e,q.take' w c⟩
  | dic ds=>obtain⟨xs,e,q⟩:=h;exact⟨xs,e,q.take w c⟩
theorem RH.take(h:RH K ρ H hd)(w:Nat)(c:(hd.take w).all (clO w)=true):RH K (ρ.take w) H (hd.take w):=by
  refine⟨by simp[h.len],h.nd.sublist (List.take_sublist _ _),h.tabs,λ n o a e1 e2=>?_⟩
  have co:=List.all_eq_true.mp c o (List.mem_of_getElem? e1)
  have hn:n < w:=by
    have:=(List.getElem?_eq_some_iff.mp e1).1
    simp at this;omega
  rw[List.getElem?_take_of_lt hn]at e1 e2
  obtain⟨ho,q1,q2⟩:=h.ob n o a e1 e2
  exact⟨ho,q1,q2.take w co⟩
theorem RH.back(R1:RH K ρ1 H1 h1){w:Nat}(hw:w <= h1.length)(c1:(h1.take w).all (clO w)=true)(x:Ext (ρ1.take w) H1 ρ' H')(R':RH K ρ' H' h2)(c:(h2.take w).all (clO w)=true) :
    RH K ρ1 H' (h2.take w ++ h1.drop w)/\Ext ρ1 H1 ρ1 H'/\ρ'.take w=ρ1.take w:=by
  obtain⟨r,rfl,fr⟩:=x.pre
  have lw:(ρ1.take w).length=w:=by rw[List.length_take,R1.len];omega
  have l2:w <= h2.length:=by rw[<- R'.len];simp[lw]
  have tk:(ρ1.take w ++ r).take w=ρ1.take w:=by rw[List.take_append_of_le_length (by omega),List.take_take];simp
  refine⟨⟨?_,R1.nd,R'.tabs,λ n o a e1 e2=>?_⟩,⟨⟨[],by simp,by simp⟩,λ b o q nb t=>x.keep b o q (λ m=>nb (List.mem_of_mem_take m)) t,x.tab⟩,tk⟩
  . rw[List.length_append,List.length_take,List.length_drop,R1.len];omega
  . by_cases hn:n < w
    . rw[List.getElem?_append_left (by rw[List.length_take];omega),List.getElem?_take_of_lt hn]at e1
      have e3:(ρ1.take w ++ r)[n]? = some a:=by
        rw[List.getElem?_append_left (by omega),List.getElem?_take_of_lt hn];exact e2
      obtain⟨ho,q1,q2⟩:=R'.ob n o a e1 e3
      have co:=List.all_eq_true.mp c o (by
        have:(h2.take w)[n]? = some o:=by rw[List.getElem?_take_of_lt hn];exact e1
        exact List.mem_of_getElem? this)
      have q3:=q2.take w co
      rw[tk]at q3
      have q4:=q3.mono (Grow.refl (H:=H')) (ρ1.drop w)
      rw[List.take_append_drop]at q4
      exact⟨ho,q1,q4⟩
    . rw[List.getElem?_append_right (by rw[List.length_take];omega),List.length_take,List.getElem?_drop]at e1
      have e1:h1[n]? = some o:=by
        have:w + (n - min w h2.length)=n:=by omega
        rw[this]at e1;exact e1
      obtain⟨ho,q1,q2⟩:=R1.ob n o a e1 e2
      have out:a ∉ ρ1.take w:=λ m=>by
        obtain⟨k,hk⟩:=List.mem_iff_getElem?.mp m
        have kw:k < w:=by
          have:=(List.getElem?_eq_some_iff.mp hk).1
          rw[lw]at this;exact this
        rw[List.getElem?_take_of_lt kw]at hk
        have:=(List.getElem?_inj (List.getElem?_eq_some_iff.mp e2).1 R1.nd).mp (e2.trans hk.symm)
        omega
      have gr:=x.grow (R1.take w c1)
      exact⟨ho,x.keep a ho q1 out (λ ps z=>by rcases R1.mut (List.mem_of_getElem? e2)with⟨y,w⟩|⟨y,w⟩ <;> (rw[q1,z]at w;cases w)),by simpa using q2.mono gr []⟩
noncomputable def spF(K:PySem.W.Frag)(k:Nat)(F:List D->Hd->Option (D × Hd)):Sp:=λ vs H Q _=>vs.length=k/\∃ (ρ:List Addr) (hd:Hd) (ds:List D) (d:D) (hd':Hd),RH K ρ H hd/\RDs K ρ H ds vs/\F ds hd=some (d,hd') /\
  ∀ ρ' H' v,Ext ρ H ρ' H'->RH K ρ' H' hd'->RD K ρ' H' d v->Q v H'
noncomputable def mkF(k n:Nat)(m:MS):List D->Hd->Option (D × Hd):=λ ds hd=>if ds.length=k then(match m (ds.map some ++ List.replicate (n - k) none) hd with
  | some (.rt d,hd')=>some (d,hd')
  | some (.nx _,hd')=>some (.im .non,hd')
  | _=>none)else none
theorem FN{N:List Str}:∀ {ds:List D} {vs:List V},RDs K ρ H ds vs->RL K ρ H (ds.map some ++ List.replicate (N.length - ds.length) none) (CD N vs):=by
  intro ds vs r
  have hl:=r.len
  refine⟨by simp[CD,hl],λ i d e=>?_⟩
  unfold CD
  by_cases hi:i < ds.length
  . rw[List.getElem?_append_left (by simpa using hi),List.getElem?_map]at e
    have e':ds[i]? = some d:=by
      cases q:ds[i]? with
      | none=>rw[q]at e;cases e
      | some z=>rw[q]at e;simpa using e
    obtain⟨x,x1,x2⟩:=r.get e'
    exact⟨x,by rw[List.getElem?_append_left (by rw[List.length_map,hl];exact hi),List.getElem?_map,x1];rfl,x2⟩
  . rw[List.getElem?_append_right (by simpa using Nat.not_lt.mp hi),List.getElem?_replicate]at e
    split at e <;> cases e
theorem Mt{k:Nat}{N:List Str}{m:MS}{t:TS}(h:RS K t m){vs:List V}{H:Hp}{Q:VK}{E:XK}(s:spF K k (mkF k N.length m) vs H Q E):t { nx:=λ _ H'=>Q .non H',rt:=Q } (CD N vs) H:=by
  obtain⟨hk,ρ,hd,ds,d,hd',hR,hr,hF,hQ⟩:=s
  unfold mkF at hF
  split at hF
  . next hl=>
    subst hl
    split at hF
    . next q=>
      cases hF
      exact h ρ _ H hd _ _ _ _ hR (FN hr) q λ ρ' H' x R v r=>hQ ρ' H' v x R r
    . next q=>
      cases hF
      exact h ρ _ H hd _ _ _ _ hR (FN hr) q λ ρ' H' x R σ L=>hQ ρ' H' .non x R (by simp[RD,RI])
    . cases hF
  . cases hF
noncomputable def Ej(F:List D->Hd->Option (D × Hd))(ma:MA):ME:=λ ls hd=>(ma ls hd).bind λ p=>F p.1 p.2
theorem LA{k:Nat}{F:List D->Hd->Option (D × Hd)}{t:TA}{m:MA}(h:RA K t m)(hk:∀ ds hd z,F ds hd=some z->ds.length=k):RE K (DY (spF K k F) [] E0 t) (Ej F m):=by
  intro ρ σ H hd ls Q d hd' hR hL hm hQ
  obtain⟨⟨d1,h1⟩,e1,hm⟩:=Option.bind_eq_some_iff.mp hm
  refine h ρ σ H hd ls _ d1 h1 hR hL e1 λ ρ1 H1 v1 x1 R1 r1=>?_
  rw[List.append_nil]
  exact⟨by rw[r1.len];exact hk _ _ _ hm,ρ1,h1,d1,d,hd',R1,r1,hm,λ ρ' H' w x2 R2 r2=>hQ ρ' H' w (x1.trans R1 x2) R2 r2⟩
theorem AT{k n:Nat}{m:MS}:∀ ds hd z,mkF k n m ds hd=some z->ds.length=k:=λ ds hd z h=>by
  unfold mkF at h
  split at h
  . next e=>exact e
  . cases h
noncomputable def fin(w:Nat)(d:D)(h2 rest:Hd):Option (D × Hd):=if(h2.take w).all (clO w)=true then(match d with
    | .mu k=>if k < w then some (.mu k,h2.take w ++ rest)else(match h2[k]? with
      | some (.lst ds)=>if BI w ds=true then some (.mu (w + rest.length),h2.take w ++ rest ++ [.lst ds])else none
      | _=>none)
    | d=>if clD w d=true then some (d,h2.take w ++ rest)else none)else none
noncomputable def AF(w:Nat)(F:List D->Hd->Option (D × Hd))(ma:MA):ME:=λ ls hd=>(ma ls hd).bind λ p=>
  if w <= p.2.length/\BI w p.1=true/\(p.2.take w).all (clO w)=true then(F p.1 (p.2.take w)).bind λ r=>fin w r.1 r.2 (p.2.drop w)else none
theorem He{w k:Nat}{F:List D->Hd->Option (D × Hd)}{t:TA}{m:MA}(h:RA K t m)(hk:∀ ds hd z,F ds hd=some z->ds.length=k):RE K (DY (spF K k F) [] E0 t) (AF w F m):=by
  intro ρ σ H hd ls Q d hd' hR hL hm hQ
  obtain⟨⟨d1,h1⟩,e1,hm⟩:=Option.bind_eq_some_iff.mp hm
  dsimp only at hm
  split at hm
  . next c=>
    obtain⟨c0,c1,c2⟩:=c
    obtain⟨⟨d2,h2⟩,e2,hm⟩:=Option.bind_eq_some_iff.mp hm
    refine h ρ σ H hd ls _ d1 h1 hR hL e1 λ ρ1 H1 v1 x1 R1 r1=>?_
    rw[List.append_nil]
    refine⟨by rw[r1.len];exact hk _ _ _ e2,ρ1.take w,h1.take w,d1,d2,h2,R1.take w c2,r1.take' w c1,e2,λ ρ' H' v x2 R2 r2=>?_⟩
    unfold fin at hm
    dsimp only at hm
    split at hm
    . next c3=>
      obtain⟨R3,x3,tk⟩:=R1.back c0 c2 x2 R2 c3
      have up:∀ {d:D} {v:V},RD K ρ' H' d v->clD w d=true->RD K ρ1 H' d v:=λ r c=>by
        have q:=r.take w c
        rw[tk]at q
        have q:=q.mono (Grow.refl (H:=H')) (ρ1.drop w)
        rw[List.take_append_drop]at q
        exact q
      have ups:∀ {d:List D} {v:List V},RDs K ρ' H' d v->BI w d=true->RDs K ρ1 H' d v:=λ r c=>by
        have q:=r.take' w c
        rw[tk]at q
        have q:=q.mono (Grow.refl (H:=H')) (ρ1.drop w)
        rw[List.take_append_drop]at q
        exact q
      split at hm
      . next k'=>
        split at hm
        . next hk'=>
          cases hm
          exact hQ ρ1 H' v (x1.trans R1 x3) R3 (up r2 (by simpa [clD]using hk'))
        . next hk'=>
          split at hm
          . next ds q=>
            split at hm
            . next c4=>
              cases hm
              simp only[RD]at r2
              obtain⟨a,ea,rfl⟩:=r2
              obtain⟨xs,l1,l2⟩:=R2.lst ea q
              have len3:=R3.len
              have out:a ∉ ρ1:=λ m=>by
                -- a is one of those made behind the first w
                obtain⟨r,er,fr⟩:=x2.pre
                have lw:(ρ1.take w).length=w:=by rw[List.length_take,R1.len];omega
                have ma:a ∈ r:=by
                  rw[er,List.getElem?_append_right (by rw[lw];omega)]at ea
                  exact List.mem_of_getElem? ea
                exact R1.out (fr a ma) m
              have na:H1 a=none:=by
                obtain⟨r,er,fr⟩:=x2.pre
                have lw:(ρ1.take w).length=w:=by rw[List.length_take,R1.len];omega
                have ma:a ∈ r:=by
                  rw[er,List.getElem?_append_right (by rw[lw];omega)]at ea
                  exact List.mem_of_getElem? ea
                exact fr a ma
              refine hQ (ρ1 ++ [a]) H' _ (x1.trans R1 (x3.name na)) (R3.name out l1 (ups l2 c4)) ?_
              simp only[RD]
              refine⟨a,?_,rfl⟩
              have:w + (List.drop w h1).length=ρ1.length:=by rw[List.length_drop,R1.len];omega
              rw[this];simp
            . cases hm
          . cases hm
      . next d' nd=>
        split at hm
        . next c4=>cases hm;exact hQ ρ1 H' v (x1.trans R1 x3) R3 (up r2 c4)
        . cases hm
    . cases hm
  . cases hm
noncomputable def Bx(kvs:List (Key × D))(k:Key):Option D:=(kvs.find? λ kv=>decide (kv.1=k)).map (·.2)
noncomputable def CP(kvs:List (Key × D))(k:Key)(v:D):List (Key × D):=
  if(kvs.any λ kv=>decide (kv.1=k))=true then kvs.map (λ kv=>if kv.1=k then(kv.1,v)else kv)else kvs ++ [(k,v)]
theorem RKs.val:∀ {kvs:List (Key × D)} {xs:List (Key × V)} {k:Key} {d:D},RKs K ρ H kvs xs->Bx kvs k=some d->∃ v,CW xs k=some v/\RD K ρ H d v
  | [],xs,k,d,h,e=>by simp[Bx]at e
  | p :: kvs,xs,k,d,h,e=>by
    simp only[RKs]at h
    obtain⟨x,r,rfl,e1,r1,r2⟩:=h
    by_cases hk:p.1=k
    . rw[DK (e1.trans hk)]
      simp[Bx,List.find?_cons,hk]at e
      subst e
      exact⟨_,rfl,r1⟩
    . rw[DL (by rw[e1];exact hk)]
      simp only[Bx,List.find?_cons,hk,decide_false]at e
      exact RKs.val r2 e
theorem RKs.valN:∀ {kvs:List (Key × D)} {xs:List (Key × V)} {k:Key},RKs K ρ H kvs xs->(CW xs k).isSome=(Bx kvs k).isSome
  | [],xs,k,h=>by simp only[RKs]at h;subst h;rfl
  | p :: kvs,xs,k,h=>by
    simp only[RKs]at h
    obtain⟨x,r,rfl,e1,r1,r2⟩:=h
    by_cases hk:p.1=k
    . rw[DK (e1.trans hk)];simp[Bx,List.find?_cons,hk]
    . rw[DL (by rw[e1];exact hk)];simp only[Bx,List.find?_cons,hk,decide_false];exact RKs.valN r2
theorem RKs.any:∀ {kvs:List (Key × D)} {xs:List (Key × V)} {k:Key},RKs K ρ H kvs xs->(xs.any λ kv=>decide (kv.1=k))=(kvs.any λ kv=>decide (kv.1=k))
  | [],xs,k,h=>by simp only[RKs]at h;subst h;rfl
  | p :: kvs,xs,k,h=>by
    simp only[RKs]at h
    obtain⟨x,r,rfl,e1,r1,r2⟩:=h
    simp only[List.any_cons,e1,RKs.any r2]
theorem RKs.upd:∀ {kvs:List (Key × D)} {xs:List (Key × V)} {k:Key} {d:D} {v:V},RKs K ρ H kvs xs->RD K ρ H d v->RKs K ρ H (kvs.map (λ kv=>if kv.1=k then(kv.1,d)else kv)) (xs.map (λ kv=>if kv.1=k then(kv.1,v)else kv))
  | [],xs,k,d,v,h,_=>by simp only[RKs]at h;subst h;simp[RKs]
  | p :: kvs,xs,k,d,v,h,q=>by
    simp only[RKs]at h
    obtain⟨x,r,rfl,e1,r1,r2⟩:=h
    simp only[List.map_cons,RKs]
    refine⟨_,_,rfl,?_,?_,RKs.upd r2 q⟩
    . rw[e1];split <;> simp[e1]
    . rw[e1];split
      . exact q
      . exact r1
theorem RKs.app:∀ {kvs ks:List (Key × D)} {xs ys:List (Key × V)},RKs K ρ H kvs xs->RKs K ρ H ks ys->RKs K ρ H (kvs ++ ks) (xs ++ ys)
  | [],ks,xs,ys,h,t=>by simp only[RKs]at h;subst h;simpa using t
  | d :: ds,ks,xs,ys,h,t=>by
    simp only[RKs]at h
    obtain⟨x,r,rfl,e,z,q⟩:=h
    simp only[List.cons_append,RKs]
    exact⟨_,_,rfl,e,z,q.app t⟩
theorem RKs.put{kvs:List (Key × D)}{xs:List (Key × V)}{k:Key}{d:D}{v:V}(h:RKs K ρ H kvs xs)(q:RD K ρ H d v):RKs K ρ H (CP kvs k d) (Bo xs k v):=by
  unfold CP Bo
  rw[h.any]
  split
  . exact h.upd q
  . exact h.app (by simp only[RKs];exact⟨_,_,rfl,rfl,q,rfl⟩)
noncomputable def Cc:D->Option Key
  | .im (.int i)=>some (.inl i)
  | .im (.str x)=>some (.inr x)
  | _=>none
theorem GP{d:D}{v:V}{k:Key}(h:RD K ρ H d v)(e:Cc d=some k):v=kV k:=by
  cases d with
  | im i=>
    cases i with
    | int i=>simp only[Cc,Option.some.injEq]at e;subst e;simp only[RD,RI]at h;exact h
    | str i=>simp only[Cc,Option.some.injEq]at e;subst e;simp only[RD,RI]at h;exact h
    | _=>simp[Cc]at e
  | _=>simp[Cc]at e
noncomputable def DE(hd:Hd):D->Option (List (Key × D))
  | .mu n=>match hd[n]? with
    | some (.dic kvs)=>some kvs
    | _=>none
  | _=>none
theorem RD.dic{d:D}{v:V}{kvs:List (Key × D)}(hR:RH K ρ H hd)(h:RD K ρ H d v)(e:DE hd d=some kvs):∃ n a xs,d=.mu n/\v=.ref a/\ρ[n]? = some a/\H a=some (.dK xs)/\RKs K ρ H kvs xs:=by
  cases d with
  | mu n=>
    simp only[DE]at e
    simp only[RD]at h
    obtain⟨a,hn,rfl⟩:=h
    split at e
    . next q=>
      cases e
      obtain⟨xs,e1,e2⟩:=hR.dic hn q
      exact⟨n,a,xs,rfl,rfl,hn,e1,e2⟩
    . cases e
  | _=>simp[DE]at e
noncomputable def BZ:D->D->Hd->Option (D × Hd):=λ d e hd=>(DE hd d).bind λ kvs=>(Cc e).bind λ k=>(Bx kvs k).map (·,hd)
theorem NH{td ty:TE}{md my:ME}(hd:RE K td md)(hy:RE K ty my):RE K (JE td ty) (mOp BZ md my):=by
  intro ρ σ H hd0 ls Q d hd' hR hL hm hQ
  obtain⟨⟨d1,h1⟩,e1,hm⟩:=Option.bind_eq_some_iff.mp hm
  obtain⟨⟨d2,h2⟩,e2,hm⟩:=Option.bind_eq_some_iff.mp hm
  obtain⟨kvs,e3,hm⟩:=Option.bind_eq_some_iff.mp hm
  obtain⟨k,e4,hm⟩:=Option.bind_eq_some_iff.mp hm
  obtain⟨w,e5,e6⟩:=Option.map_eq_some_iff.mp hm
  cases e6
  refine hd ρ σ H hd0 ls _ d1 h1 hR hL e1 λ ρ1 H1 v1 x1 R1 r1=>?_
  refine hy ρ1 σ H1 h1 ls _ d2 _ R1 (hL.ext hR x1) e2 λ ρ2 H2 v2 x2 R2 r2=>?_
  obtain⟨n,a,xs,rfl,rfl,hn,l1,l2⟩:=RD.dic R2 (r1.ext R1 x2) e3
  have:=GP r2 e4
  subst this
  obtain⟨v,v1,v2⟩:=l2.val e5
  exact⟨a,v,rfl,v1 ▸ DGet.k l1,hQ ρ2 H2 v (x1.trans R1 x2) R2 v2⟩
open Classical in
noncomputable def CT(md my mv:ME):MS:=λ ls hd=>(mv ls hd).bind λ p=>(md ls p.2).bind λ q=>(my ls q.2).bind λ r=>(Cc r.1).bind λ k=>match q.1 with
  | .mu n=>match r.2[n]? with
    | some (.dic kvs)=>if EH kvs.length then some (.nx ls,r.2.set n (.dic (CP kvs k p.1)))else none
    | _=>none
  | _=>none
theorem N3{td ty tv:TE}{md my mv:ME}(hd:RE K td md)(hy:RE K ty my)(hv:RE K tv mv):RS K (JG td ty tv) (CT md my mv):=by
  intro ρ σ H hd0 ls E f hd' hR hL hm hQ
  obtain⟨⟨d1,h1⟩,e1,hm⟩:=Option.bind_eq_some_iff.mp hm
  obtain⟨⟨d2,h2⟩,e2,hm⟩:=Option.bind_eq_some_iff.mp hm
  obtain⟨⟨d3,h3⟩,e3,hm⟩:=Option.bind_eq_some_iff.mp hm
  obtain⟨k,e4,hm⟩:=Option.bind_eq_some_iff.mp hm
  dsimp only at hm
  split at hm
  . split at hm
    . next q=>
      split at hm
      . next c=>
        cases hm
        refine hv ρ σ H hd0 ls _ d1 h1 hR hL e1 λ ρ1 H1 v1 x1 R1 r1=>?_
        refine hd ρ1 σ H1 h1 ls _ _ h2 R1 (hL.ext hR x1) e2 λ ρ2 H2 v2 x2 R2 r2=>?_
        refine hy ρ2 σ H2 h2 ls _ d3 _ R2 (hL.ext hR (x1.trans R1 x2)) e3 λ ρ3 H3 v3 x3 R3 r3=>?_
        have r2:=r2.ext R2 x3
        simp only[RD]at r2
        obtain⟨a,hn,rfl⟩:=r2
        obtain⟨xs,l1,l2⟩:=R3.dic hn q
        have:=GP r3 e4
        subst this
        obtain⟨R4,x4⟩:=R3.put hn (o:=.dic (CP _ k d1)) (ho:=.dK (Bo xs k v1)) ⟨_,rfl,l2.put ((r1.ext R1 x2).ext R2 x3)⟩
        have x13:=(x1.trans R1 x2).trans R2 x3
        exact⟨a,_,rfl,DPut.k l1 (by rw[l2.len];exact c),hQ ρ3 _ (x13.trans R3 x4) R4 σ ((hL.ext hR x13).ext R3 x4)⟩
      . cases hm
    . cases hm
  . cases hm
noncomputable def Cp:List (ME × ME)->Ls->Hd->Option (List (Key × D) × Hd)
  | [],_,hd=>some ([],hd)
  | (mk,mv) :: r,ls,hd=>(mk ls hd).bind λ p=>(mv ls p.2).bind λ q=>(Cp r ls q.2).bind λ z=>(Cc p.1).map λ k=>((k,q.1) :: z.1,z.2)
noncomputable def Dw(kvs more:List (Key × D)):List (Key × D):=more.foldl (λ acc kv=>CP acc kv.1 kv.2) kvs
theorem RKs.merge:∀ {more kvs:List (Key × D)} {ms xs:List (Key × V)},RKs K ρ H more ms->RKs K ρ H kvs xs->RKs K ρ H (Dw kvs more) (Co xs ms)
  | [],kvs,ms,xs,h,t=>by simp only[RKs]at h;subst h;exact t
  | d :: ds,kvs,ms,xs,h,t=>by
    simp only[RKs]at h
    obtain⟨x,r,rfl,e,z,q⟩:=h
    show RKs K ρ H (Dw (CP kvs d.1 d.2) ds) (Co (Bo xs x.1 x.2) r)
    rw[e]
    exact q.merge (t.put z)
noncomputable def RPs(K:PySem.W.Frag):List (TE × TE)->List (ME × ME)->Prop
  | [],[]=>True
  | t :: ts,m :: ms=>RE K t.1 m.1/\RE K t.2 m.2/\RPs K ts ms
  | _,_=>False
theorem Hn:∀ {trs:List (TE × TE)} {ms:List (ME × ME)},RPs K trs ms->∀ (ρ:List Addr) (σ:St) (H:Hp) (hd:Hd) (ls:Ls) (Q:List (V × V)->Hp->Prop) (kvs:List (Key × D)) (hd':Hd),RH K ρ H hd->RL K ρ H ls σ->Cp ms ls hd=some (kvs,hd') ->
    (∀ ρ' H' xs,Ext ρ H ρ' H'->RH K ρ' H' hd'->RKs K ρ' H' kvs xs->Q (xs.map λ kv=>(kV kv.1,kv.2)) H')->ER trs σ H Q
  | [],[],_,ρ,σ,H,hd,ls,Q,kvs,hd',hR,hL,hm,hQ=>by
    cases hm
    exact hQ ρ H [] .refl hR (by simp[RKs])
  | (tk,tv) :: ts,(mk,mv) :: ms,⟨a,b,c⟩,ρ,σ,H,hd,ls,Q,kvs,hd',hR,hL,hm,hQ=>by
    unfold Cp at hm
    obtain⟨⟨d1,h1⟩,e1,hm⟩:=Option.bind_eq_some_iff.mp hm
    obtain⟨⟨d2,h2⟩,e2,hm⟩:=Option.bind_eq_some_iff.mp hm
    obtain⟨⟨d3,h3⟩,e3,hm⟩:=Option.bind_eq_some_iff.mp hm
    obtain⟨k,e4,e5⟩:=Option.map_eq_some_iff.mp hm
    cases e5
    unfold ER
    refine a ρ σ H hd ls _ d1 h1 hR hL e1 λ ρ1 H1 v1 x1 R1 r1=>?_
    refine b ρ1 σ H1 h1 ls _ d2 h2 R1 (hL.ext hR x1) e2 λ ρ2 H2 v2 x2 R2 r2=>?_
    refine Hn c ρ2 σ H2 h2 ls _ d3 _ R2 (hL.ext hR (x1.trans R1 x2)) e3 λ ρ3 H3 xs x3 R3 r3=>?_
    have:=GP r1 e4
    subst this
    exact hQ ρ3 H3 ((k,v2) :: xs) ((x1.trans R1 x2).trans R2 x3) R3 (by simp only[RKs];exact⟨_,_,rfl,rfl,r2.ext R2 x3,r3⟩)
  | [],_ :: _,h,_,_,_,_,_,_,_,_,_,_,_,_=>h.elim
  | _ :: _,[],h,_,_,_,_,_,_,_,_,_,_,_,_=>h.elim
noncomputable def Fq(ms:List (ME × ME)):ME:=λ ls hd=>(Cp ms ls hd).bind λ p=>if p.1.length <= 15 then some (.mu p.2.length,p.2 ++ [.dic (Dw [] p.1)])else none
theorem RH.nameD(hR:RH K ρ H hd){a:Addr}{xs:List (Key × V)}{kvs:List (Key × D)}(out:a ∉ ρ){o:HO}(e:H a=some o)(ht:∀ ys,o ≠ .tup ys)(hf:∀ x u,o ≠ .frz x u)(r:RKs K ρ H kvs xs)(h1:∀ ps,o ≠ .tbl ps:=by intro _ z;cases z)(h2:∀ φ,o ≠ .ext φ:=by intro _ z;cases z):RH K (ρ ++ [a]) (upd H a (.dK xs)) (hd ++ [.dic kvs]):=by
  have gr:Grow H (upd H a (.dK xs)):=Grow.refl.put ⟨λ ys z=>ht ys (by rw[e]at z;exact Option.some.inj z),λ x u z=>hf x u (by rw[e]at z;exact Option.some.inj z)⟩
  refine⟨by simp[hR.len],?_,hR.tabs.upd (λ ps z=>h1 ps (Option.some.inj (e.symm.trans z))) (λ ps z=>h2 ps (Option.some.inj (e.symm.trans z))),λ n o' b e1 e2=>?_⟩
  . rw[List.nodup_append]
    refine⟨hR.nd,by simp,λ x hx y hy z=>?_⟩
    simp at hy;subst hy;subst z;exact out hx
  . by_cases hn:n < ρ.length
    . rw[List.getElem?_append_left hn]at e2
      rw[List.getElem?_append_left (by rw[<- hR.len];exact hn)]at e1
      obtain⟨ho',q1,q2⟩:=hR.ob n o' b e1 e2
      have:b ≠ a:=λ z=>out (by rw[<- z];exact List.mem_of_getElem? e2)
      exact⟨ho',by rw[AI this];exact q1,q2.mono gr [a]⟩
    . have hn':n=ρ.length:=by
        have:=(List.getElem?_eq_some_iff.mp e2).1
        simp at this;omega
      subst hn'
      simp at e2
      rw[hR.len]at e1
      simp at e1
      subst e1;subst e2
      exact⟨_,AQ,⟨xs,rfl,r.mono gr [_]⟩⟩
theorem NG{trs:List (TE × TE)}{ms:List (ME × ME)}(h:RPs K trs ms):RE K (JD trs) (Fq ms):=by
  intro ρ σ H hd ls Q d hd' hR hL hm hQ
  obtain⟨⟨kvs,h1⟩,e1,hm⟩:=Option.bind_eq_some_iff.mp hm
  dsimp only at hm
  split at hm
  . next c=>
    cases hm
    intro p hp
    obtain⟨R0,x0⟩:=hR.hid (ho:=.dK []) hp
    refine Hn h ρ σ _ hd ls _ kvs h1 R0 (hL.ext hR x0) e1 λ ρ1 H1 xs x1 R1 r1=>?_
    have hp1:H1 p=some (.dK []):=x1.keep p _ AQ (hR.out hp) nt
    have op:p ∉ ρ1:=by
      obtain⟨r,rfl,fr⟩:=x1.pre
      intro z
      rcases List.mem_append.mp z with z|z
      . exact hR.out hp z
      . have:=fr _ z
        rw[AQ]at this;cases this
    refine⟨hp1,xs,rfl,by rw[r1.len];exact c,?_⟩
    have mm:RKs K ρ1 H1 (Dw [] kvs) (Co [] xs):=r1.merge (by simp[RKs])
    have R2:=R1.nameD op hp1 (λ _ z=>by cases z) (λ _ _ z=>by cases z) mm
    have x01:=x0.trans R0 x1
    refine hQ (ρ1 ++ [p]) _ _ ?_ R2 ?_
    . obtain⟨r,er,fr⟩:=x01.pre
      refine⟨⟨r ++ [p],by rw[er];simp,λ b m=>?_⟩,λ b o q nb t=>?_,λ b ps q=>?_⟩
      . rcases List.mem_append.mp m with m|m
        . exact fr b m
        . simp at m;subst m;exact hp
      . have:b ≠ p:=Aa q hp
        rw[AI this];exact x01.keep b o q nb t
      . have:b ≠ p:=Aa q hp
        rw[AI this];exact x01.tab b ps q
    . simp only[RD]
      exact⟨p,by rw[<- R1.len];simp,rfl⟩
  . cases hm
noncomputable def Fp(mo mi mv:ME):MS:=λ ls hd=>(mv ls hd).bind λ p=>(mo ls p.2).bind λ q=>(mi ls q.2).bind λ r=>match q.1,r.1 with
  | .mu n,.im (.int i)=>match r.2[n]? with
    | some (.lst ds)=>(ixN ds.length i).map λ j=>(.nx ls,r.2.set n (.lst (ds.set j p.1)))
    | _=>none
  | _,_=>none
theorem N1{to ti tv:TE}{mo mi mv:ME}(ho:RE K to mo)(hi:RE K ti mi)(hv:RE K tv mv):RS K (GA tv (Lq to ti JN)) (Fp mo mi mv):=by
  intro ρ σ H hd0 ls E f hd' hR hL hm hQ
  obtain⟨⟨d1,h1⟩,e1,hm⟩:=Option.bind_eq_some_iff.mp hm
  obtain⟨⟨d2,h2⟩,e2,hm⟩:=Option.bind_eq_some_iff.mp hm
  obtain⟨⟨d3,h3⟩,e3,hm⟩:=Option.bind_eq_some_iff.mp hm
  dsimp only at hm
  split at hm
  . split at hm
    . next q=>
      obtain⟨j,e4,e5⟩:=Option.map_eq_some_iff.mp hm
      cases e5
      refine hv ρ σ H hd0 ls _ d1 h1 hR hL e1 λ ρ1 H1 v1 x1 R1 r1=>?_
      refine ho ρ1 σ H1 h1 ls _ _ h2 R1 (hL.ext hR x1) e2 λ ρ2 H2 v2 x2 R2 r2=>?_
      refine hi ρ2 σ H2 h2 ls _ _ _ R2 (hL.ext hR (x1.trans R1 x2)) e3 λ ρ3 H3 v3 x3 R3 r3=>?_
      have r2:=r2.ext R2 x3
      simp only[RD]at r2
      obtain⟨a,hn,rfl⟩:=r2
      simp only[RD,RI]at r3
      subst r3
      obtain⟨xs,l1,l2⟩:=R3.lst hn q
      obtain⟨R4,x4⟩:=R3.put hn (o:=.lst _) (ho:=.lst (xs.set j v1)) ⟨_,rfl,l2.set j ((r1.ext R1 x2).ext R2 x3)⟩
      have x13:=(x1.trans R1 x2).trans R2 x3
      exact⟨a,xs,_,j,rfl,rfl,l1,by rw[l2.len];exact e4,hQ ρ3 _ (x13.trans R3 x4) R4 σ ((hL.ext hR x13).ext R3 x4)⟩
    . cases hm
  . cases hm
end
end L2
namespace L2
open PySem PySem.Spec PyProof.Rows
structure QG(K:PySem.W.Frag)(X:Cx)(e:Expr)(t:TG)(m:MG):Prop where
  p:PG X e t
  r:RGt K t m
structure QGs(K:PySem.W.Frag)(X:Cx)(e:List Expr)(t:TGs)(m:MGs):Prop where
  p:PGs X e t
  r:IL K t m
structure QI(K:PySem.W.Frag)(X:Cx)(tg e:Expr)(t:TI)(m:MI):Prop where
  p:PI X tg e t
  r:RIt K t m
structure QF(K:PySem.W.Frag)(X:Cx)(e:List Expr)(t:TT)(m:MT):Prop where
  p:PF X e t
  r:RT K t m
structure QO(K:PySem.W.Frag)(X:Cx)(e:Option Expr)(t:TO)(m:MO1):Prop where
  p:PO X e t
  r:RO1 K t m
structure QPs(K:PySem.W.Frag)(X:Cx)(pos:Pos)(keys:List (Option Expr))(values:List Expr)(t:List (TE × TE))(m:List (ME × ME)):Prop where
  p:PPs X pos keys values t
  r:RPs K t m
noncomputable def Mg(a b:List D):Prop:=a ≠ []/\Bi (a.length + b.length)
open Classical in
noncomputable def Fw:D->D->Hd->Option (D × Hd):=λ d e hd=>(Ag d).bind λ a=>(Ag e).bind λ b=>if Mg a b then some (BP (a ++ b),hd)else none
theorem An{K:PySem.W.Frag}:RB K (JP K) Fw:=by
  intro ρ H hd d e v u Q z hd' hR h1 h2 hf hQ
  unfold Fw at hf
  obtain⟨a,e1,hf⟩:=Option.bind_eq_some_iff.mp hf
  obtain⟨b,e2,hf⟩:=Option.bind_eq_some_iff.mp hf
  split at hf
  . next c=>
    cases hf
    obtain⟨p,xs,rfl,q1,r1⟩:=h1.tup e1
    obtain⟨p2,ys,rfl,q2,r2⟩:=h2.tup e2
    have l1:=r1.len;have l2:=r2.len
    refine⟨p,p2,xs,ys,rfl,rfl,q1,q2,λ z=>c.1 (by rw[z]at l1;simpa using l1.symm),by rw[l1,l2];exact c.2,λ z=>?_,λ _ p3 hp=>?_⟩
    . have:b=[]:=by rw[z]at l2;simpa using l2.symm
      subst this
      exact hQ ρ H _ .refl hR (by rw[List.append_nil];exact CY q1 r1)
    . obtain⟨R2,x2⟩:=hR.hid (ho:=.tup (xs ++ ys)) hp
      exact hQ ρ _ _ x2 R2 (CY (SqT.of AQ) ((r1.app r2).ext hR x2))
  . cases hf
noncomputable abbrev Am:=FF Jg Fw
noncomputable def Rq(neg:Bool)(m:ME):ME:=λ ls hd=>(m ls hd).bind λ p=>some (.im (.bl (match p.1 with
  | .im .non=>!neg
  | _=>neg)),p.2)
noncomputable def Hv(m:ME):ME:=λ ls hd=>(m ls hd).bind λ p=>match p.1 with
  | .im (.int i)=>some (.im (.int (-i)),p.2)
  | _=>none
theorem Os{K:PySem.W.Frag}{t:TE}{m:ME}(h:RE K t m):RE K (tUn (rU λ i=>.int (-i)) t) (Hv m):=by
  intro ρ σ H hd ls Q d hd' hR hL hm hQ
  obtain⟨⟨d1,h1⟩,e1,hm⟩:=Option.bind_eq_some_iff.mp hm
  dsimp only at hm
  split at hm
  . cases hm
    exact h ρ σ H hd ls _ _ _ hR hL e1 λ ρ1 H1 v x1 R1 r1=>⟨_,by simpa only[RD,RI]using r1,hQ ρ1 H1 _ x1 R1 (by simp[RD,RI])⟩
  . cases hm
noncomputable def Ct:MT:=λ _ hd=>some (true,hd)
theorem OZ{K:PySem.W.Frag}:RT K Km Ct:=by
  intro ρ σ H hd ls Q d hd' hR hL hm hQ
  cases hm
  exact hQ ρ H .refl hR
section
variable(K:PySem.W.Frag){X:Cx}{a b c e:Expr}{es:List Expr}{ta tb tc te:TE}{ma mb mc me:ME}{tA tB':TT}{nA nB:MT}{t:TA}{m:MA}{pos:Pos}{x:Str}
theorem qv(i:Nat){x:Str}{pos:Pos}(hN:X.N[i]? = some x:=by rfl)(hv:Vis X.env.scope x:=by first|exact Or.inl rfl|exact Or.inr (Or.inl rfl)|exact Or.inr (Or.inr rfl))(hd:(x == ("__debug__":Str))=false:=by decide)
    (hcd:(x == ("__classdict__":Str))=false:=by decide):QE K X (.Name x pos) (J7 i) (A0 i):=⟨Dv hN hv hd hcd,On⟩
theorem A5{i:Int}{j pos}:QE K X (.Constant (.int i) j pos) (tC (.int i)) (mC (.int i)):=⟨PV,LB λ _=>by simp[RI]⟩
theorem Ey{i:Bool}{j pos}:QE K X (.Constant (.bool i) j pos) (tC (.bl i)) (mC (.bl i)):=⟨Qp,LB λ _=>by simp[RI]⟩
theorem AH{x:Str}{j pos}:QE K X (.Constant (.str x) j pos) (tC (.str x)) (mC (.str x)):=⟨KB,LB λ _=>by simp[RI]⟩
theorem AR{op:Operator}{r:R2}{f:D->D->Hd->Option (D × Hd)}(ho:OpR X (binaryOp op) r)(hr:RB K r f)(ha:QE K X a ta ma)(hb:QE K X b tb mb):QE K X (.BinOp a op b pos) (tOp r ta tb) (mOp f ma mb):=⟨MR ho ha.p hb.p,JH hr ha.r hb.r⟩
theorem P7(ha:QE K X a ta ma):QE K X (.UnaryOp .USub a pos) (tUn (rU λ i=>.int (-i)) ta) (Hv ma):=⟨Qn OT ha.p,Os ha.r⟩
theorem AU{op:CmpOp}{r:R2}{f:D->D->Hd->Option (D × Hd)}(ho:OpR X (compareOp op) r)(hr:RB K r f)(ha:QE K X a ta ma)(hb:QE K X b tb mb)(hm:behindInMarks op b=false:=by first|exact KF _|rfl):QT K X (.Compare a [op] [b] pos) (Gu (tOp r ta tb)) (AJ (mOp f ma mb)):=⟨Ij ho ha.p hb.p hm,IU (JH hr ha.r hb.r)⟩
theorem LM(ha:QE K X a ta ma)(he:∀ whole,isTrue a X.env whole=(do let v <- whole;standAt a.pos;holding [v] (truthy v)):=by intro _;rfl)(hK:X.K=K:=by rfl) :
    QT K X a (λ σ H Q=>ta σ H λ x H'=>∃ k,IK K x H' k/\Q k H') (GJ ma):=by
  subst hK
  exact⟨LV ha.p he,Kx ha.r⟩
theorem P2(ha:QT K X a tA nA):QT K X (.UnaryOp .Not a pos) (Kq tA) (GK nA):=⟨K8 ha.p,Oa ha.r⟩
theorem NN(ha:QT K X a tA nA):QW K X (.BoolOp .And [a] pos) tA nA:=⟨Ii ha.p,ha.r⟩
theorem Fe(ha:QT K X a tA nA):QW K X (.BoolOp .Or [a] pos) tA nA:=⟨PB ha.p,ha.r⟩
theorem P1{rest:List Expr}(ha:QT K X a tA nA)(hb:QW K X (.BoolOp .And (b :: rest) pos) tB' nB):QW K X (.BoolOp .And (a :: b :: rest) pos) (Kt tA tB') (GN nA nB):=⟨Hh ha.p hb.p,Ob ha.r hb.r⟩
theorem Gx{rest:List Expr}(ha:QT K X a tA nA)(hb:QW K X (.BoolOp .Or (b :: rest) pos) tB' nB):QW K X (.BoolOp .Or (a :: b :: rest) pos) (tOr tA tB') (mOr nA nB):=⟨Ql ha.p hb.p,Qc ha.r hb.r⟩
theorem QW.toT{K:PySem.W.Frag}{X:Cx}{e:Expr}{t:TT}{m:MT}(h:QW K X e t m):QT K X e t m:=⟨h.p.pt,h.r⟩
theorem CH(hc:QT K X c tA nA)(ha:QE K X a ta ma)(hb:QE K X b tb mb):QE K X (.IfExp c a b pos) (tIf tA ta tb) (mIf nA ma mb):=⟨Lb hc.p ha.p hb.p,MH hc.r ha.r hb.r⟩
theorem A6:QA K X [] DM A8:=⟨C8,Ow⟩
theorem A1(ha:QE K X e te me)(hr:QA K X es t m)(hs:starEach (e :: es) X.env=(false,eval e X.env) :: starEach es X.env:=by rfl):QA K X (e :: es) (CN te t) (A2 me m):=⟨Ao ha.p hr.p hs,NI ha.r hr.r⟩
theorem Au{x1}(h:QA K X es t m):QE K X (.Tuple es x1 pos) (Kn t) (BB m):=⟨Hl h.p,Oo h.r⟩
theorem CO(h:QA K X es t m):QN K X (.List es pos) (Kr t) (CS m):=⟨PU h.p,Oi h.r⟩
theorem Bz(h:QN K X e te m):QE K X e te (Be m):=⟨h.p,Oq h.r⟩
theorem Ai(ha:QE K X a ta ma)(hb:QE K X b tb mb)(hs:GT b:=by exact λ _ _=>rfl)(hK:X.K=K:=by rfl):QE K X (.Subscript a b pos) (tOp (Gw K) ta tb) (mOp gIx ma mb):=⟨MU ((Hy K hK).or (Io K hK)) ha.p hb.p hs,JH Qi ha.r hb.r⟩
theorem CZ(hu:X.A.units + 1 < cLine)(ha:QE K X a ta ma)(hb:QE K X b tb mb)(hs:M4 b:=by exact λ _ _=>rfl):QE K X (.Subscript a b pos) (JE ta tb) (mOp BZ ma mb):=⟨No hu ha.p hb.p hs,NH ha.r hb.r⟩
theorem Ie:QO K X none G9 Cb:=⟨Nf,N5⟩
theorem Ic(h:QE K X e te me):QO K X (some e) (JA te) (EC me):=⟨Nd h.p,N4 h.r⟩
theorem P6{lo hi:Option Expr}{tl th:TO}{ml mh:MO1}{p2:Pos}(h:QE K X e te me)(hl:QO K X lo tl ml)(hh:QO K X hi th mh)(hK:X.K=K:=by rfl):QE K X (.Subscript e (.Slice lo hi none p2) pos) (tSl (JL K) te tl th) (Ht me ml mh):=⟨Hm (Mu K hK) h.p hl.p hh.p,Op h.r hl.r hh.r⟩
theorem P5{lo hi:Option Expr}{tl th:TO}{ml mh:MO1}{p2:Pos}(h:QE K X e te me)(hl:QO K X lo tl ml)(hh:QO K X hi th mh)(hK:X.K=K:=by rfl):QN K X (.Subscript e (.Slice lo hi none p2) pos) (tSl (JM K) te tl th) (Hu me ml mh):=⟨Hm (Ku K hK) h.p hl.p hh.p,Oh h.r hl.r hh.r⟩
theorem C2{id:String}{p:Pos}{r:List V->Hp->VK->Prop}{f:List D->Hd->Option (D × Hd)}(hc:BR X (.builtin id) r)(hr:RF K r f)(hm:X.mg x=none)(hv:bootBuiltins x=some (.builtin id))(ha:QA K X (e :: es) t m)(hg:Gl X x:=by rfl)(hn:x ≠ "__name__":=by decide)(hdb:(x == ("__debug__":Str))=false:=by decide)
    (he:starEach (e :: es) X.env=(false,eval e X.env) :: starEach es X.env:=by rfl) (hpl:(backTo pos (starEach es X.env)).any (·.1)=false:=by rfl):QE K X (.Call (.Name x p) (e :: es) [] pos) (tCB r t) (mCB f m):=⟨E8 hc hg hm hv ha.p hn hdb he hpl,MJ hr ha.r⟩
theorem JQ{id:String}{p:Pos}{r:List V->Hp->VK->Prop}{f:List D->Hd->Option (D × Hd)}(hc:BR X (.type id) r)(hr:RF K r f)(hm:X.mg x=none)(hv:bootBuiltins x=some (.type id))(ha:QA K X (e :: es) t m)(hg:Gl X x:=by rfl)(hn:x ≠ "__name__":=by decide)(hdb:(x == ("__debug__":Str))=false:=by decide)
    (he:starEach (e :: es) X.env=(false,eval e X.env) :: starEach es X.env:=by rfl) (hpl:(backTo pos (starEach es X.env)).any (·.1)=false:=by rfl):QE K X (.Call (.Name x p) (e :: es) [] pos) (tCB r t) (mCB f m):=⟨Db hc hg hm hv ha.p hn hdb he hpl,MJ hr ha.r⟩
theorem MP{id:String}{p:Pos}{r:List V->Hp->VK->Prop}{tp:Bool}{g:List D->Option D}(hc:BR X (.type id) r)(hr:RG K tp r g)(hm:X.mg x=none)(hv:bootBuiltins x=some (.type id))(ha:QN K X e te m)(hg:Gl X x:=by rfl)(hn:x ≠ "__name__":=by decide)(hdb:(x == ("__debug__":Str))=false:=by decide)
    (he:starEach [e] X.env=[(false,eval e X.env)]:=by rfl):QE K X (.Call (.Name x p) [e] [] pos) (tCB r (CN te DM)) (GM g m):=⟨Db hc hg hm hv (Ao ha.p C8 he) hn hdb he rfl,Ou hr ha.r⟩
theorem NS{p:Pos}(hm:X.mg "list"=none)(ha:QE K X e te me)(hg:Gl X "list":=by rfl)(he:starEach [e] X.env=[(false,eval e X.env)]:=by rfl)(hK:X.K=K:=by rfl):QN K X (.Call (.Name "list" p) [e] [] pos) (tCB (Dr K) (CN te DM)) (Fo me):=⟨Db (G5 K hK) hg hm Iw (Ao ha.p C8 he) (by decide) (by decide) he rfl,N6 ha.r⟩
theorem LN{p:Pos}(hm:X.mg "list"=none)(ha:QN K X e te m)(hg:Gl X "list":=by rfl)(he:starEach [e] X.env=[(false,eval e X.env)]:=by rfl)(hK:X.K=K:=by rfl):QN K X (.Call (.Name "list" p) [e] [] pos) (tCB (Dr K) (CN te DM)) (Eg m):=⟨Db (G5 K hK) hg hm Iw (Ao ha.p C8 he) (by decide) (by decide) he rfl,L8 ha.r⟩
theorem MN{id:String}{r:V->List V->Hp->VK->Prop}{f:D->List D->Hd->Option (D × Hd)}{name:Str}{apos cpos:Pos}{o:Expr}{to:TE}{mo:ME}(slot:Slot "list" name id)(hty:typeOf (.builtin id)=pure (.type "method_descriptor"))(hm:MtM X id r)(hr:RM K r f)(ho:QE K X o to mo)(ha:QA K X (e :: es) t m)
    (hbase:attributeBase o name X.env (eval o X.env)=eval o X.env:=by rfl)
    (hfew:((backTo cpos (starEach (e :: es) X.env)).all (λ x=>!x.1) && (backToKw cpos (keywordEach [] X.env)).all (λ x=>x.1.isSome)
      && decide ((e :: es).length + ([]:List Keyword).length + (if([]:List Keyword).isEmpty then 0 else 1) < 30))=true:=by rfl)
    (hline:(apos.endLine == cpos.line)=true:=by rfl) (hs:starEach (e :: es) X.env=(false,eval e X.env) :: starEach es X.env:=by rfl) (hplain:(backTo cpos (starEach es X.env)).any (·.1)=false:=by rfl) (hK:X.K=K:=by rfl) :
    QE K X (.Call (.Attribute o name apos) (e :: es) [] cpos) (tBM K "list" r to t) (mMt f mo m):=by
  subst hK
  exact⟨Qo PySem.F.plainAttrs_list slot hty hm ho.p ha.p hbase hfew hline hs hplain,Qg hr ho.r ha.r⟩
theorem AN(w:Nat){j k:Nat}{f:Addr}{fd:FuncData}{ps:List Str}{n:Nat}{F:List D->Hd->Option (D × Hd)}{st:Stmt}{p:Pos}(G:FnOk X.prog X.w X.K X.mg X.base CX0 j f fd ps (spF K n F))(hr:Room k X.A)(DA:DefAt X.K X.mg x st f fd ps)(ha:QA K X (e :: es) t m)(hF:∀ ds hd z,F ds hd=some z->ds.length=n)
    (hjk:j <= k:=by decide) (hg:Gl X x:=by rfl) (hdb:(x == ("__debug__":Str))=false:=by decide) (he:starEach (e :: es) X.env=(false,eval e X.env) :: starEach es X.env:=by rfl) (hpl:(backTo pos (starEach es X.env)).any (·.1)=false:=by rfl) :
    QE K X (.Call (.Name x p) (e :: es) [] pos) (DY (spF K n F) [] E0 t) (AF w F m):=⟨MV G hr DA ha.p hjk hg hdb he hpl,He ha.r hF⟩
theorem LO{j k:Nat}{f:Addr}{fd:FuncData}{ps:List Str}{n:Nat}{F:List D->Hd->Option (D × Hd)}{st:Stmt}{p:Pos}(G:FnOk X.prog X.w X.K X.mg X.base CX0 j f fd ps (spF K n F))(hr:Room k X.A)(DA:DefAt X.K X.mg x st f fd ps)(ha:QA K X (e :: es) t m)(hF:∀ ds hd z,F ds hd=some z->ds.length=n)
    (hjk:j <= k:=by decide) (hg:Gl X x:=by rfl) (hdb:(x == ("__debug__":Str))=false:=by decide) (he:starEach (e :: es) X.env=(false,eval e X.env) :: starEach es X.env:=by rfl) (hpl:(backTo pos (starEach es X.env)).any (·.1)=false:=by rfl) :
    QE K X (.Call (.Name x p) (e :: es) [] pos) (DY (spF K n F) [] E0 t) (Ej F m):=⟨MV G hr DA ha.p hjk hg hdb he hpl,LA ha.r hF⟩
theorem NR{pos:Pos}:QPs K X pos [] [] [] []:=⟨Nc,trivial⟩
theorem E7{pos:Pos}{k v:Expr}{ks:List (Option Expr)}{vs:List Expr}{tk tv:TE}{mk mv:ME}{trs:List (TE × TE)}{ms:List (ME × ME)}(hk:QE K X k tk mk)(hv:QE K X v tv mv)(hr:QPs K X pos ks vs trs ms):QPs K X pos (some k :: ks) (v :: vs) ((tk,tv) :: trs) ((mk,mv) :: ms):=⟨LX hk.p hv.p hr.p,hk.r,hv.r,hr.r⟩
theorem NT{pos:Pos}{keys:List (Option Expr)}{values:List Expr}{trs:List (TE × TE)}{ms:List (ME × ME)}(h:QPs K X pos keys values trs ms)(hall:keys.all (·.isSome)=true:=by rfl)(hl:keys.length=values.length:=by rfl)(h0:keys ≠ []:=by simp)
    (h15:keys.length <= 15:=by decide):QE K X (.Dict keys values pos) (JD trs) (Fq ms):=⟨Nn h.p hall hl h0 h15,NG h.r⟩
theorem BG{i:Nat}(hN:X.N.Nodup)(hi:X.N[i]? = some x)(hx:Loc X.env.scope x)(hf:X.fn x=true ∨ X.env.scope.names.lookup x=some .local:=by first|exact .inl rfl|exact .inr rfl|assumption):QG K X (.Name x pos) (Fv i) (Av i):=⟨Nl hN hi hx hf,IX⟩
theorem Ex:QGs K X [] Lu EA:=⟨Nj,NB⟩
theorem By{tg:TG}{tgs:TGs}{n:MG}{ns:MGs}(h1:QG K X e tg n)(h2:QGs K X es tgs ns)(hs:(assignEach (e :: es) X.env).map (·.2)=assign e X.env :: (assignEach es X.env).map (·.2):=by rfl):QGs K X (e :: es) (Jf tg tgs) (Bp n ns):=⟨La h1.p h2.p hs,L9 h1.r h2.r⟩
theorem Ff{k n:Nat}{tgs:TGs}{ns:MGs}(hc:X.calm=true)(h:QGs K X es tgs ns)(hK:X.K=K:=by rfl)(hn:(assignEach es X.env).length=n:=by rfl)(hst:(assignEach es X.env).findIdx? (·.1)=none:=by rfl):QG K X (.Tuple es k pos) (Je K n tgs) (E9 n ns):=⟨Nk K hc h.p hK hn hst,Om h.r⟩
theorem Du{tg:Expr}(h:QE K X e te me)(hK:X.K=K:=by rfl):QI K X tg e (Jb K te) (DQ me):=⟨Nh K h.p hK,Ol h.r⟩
theorem GD{tg:Expr}(h:QE K X e te me)(hK:X.K=K:=by rfl):QI K X tg e (Gz K te) (Df me):=⟨LZ K h.p hK,NA h.r⟩
theorem Ig{tg:Expr}{p:Pos}(hm:X.mg "range"=none)(ha:QA K X [a] t m)(hg:Gl X "range":=by rfl)(hs:starEach [a] X.env=[(false,eval a X.env)]:=by rfl):QI K X tg (.Call (.Name "range" p) [a] [] pos) (Jc t) (GL m):=⟨KA hg hm ha.p hs,N9 ha.r⟩
theorem EZ:QF K X [] Km Ct:=⟨PR,OZ⟩
theorem Dt{elt tg iter:Expr}{ifs:List Expr}{scope:Scope}{loc fr:List Str}{ix:List Nat}{wi:TI}{g:TG}{tf:TT}{te:TE}{mi:MI}{n:MG}{mf:MT}{mm:ME}(hc:X.calm=true)(S:CSc X scope fr ix)(hi:QI K X tg iter wi mi)
    (hg:∀ s H ex,QG K (cCx X (loc ++ fr) scope s H ex) tg g n) (hf:∀ s H ex,QF K (cCx X (loc ++ fr) scope s H ex) ifs tf mf) (he:∀ s H ex,QE K (cCx X (loc ++ fr) scope s H ex) elt te mm)
    (hs:∀ x,foldedSetIterable iter X.env x=pure x:=by intro _;rfl):QN K X (.ListComp elt [⟨tg,iter,ifs,0⟩] scope pos) (JF loc.length ix wi g tf te) (CG loc.length ix mi n mf mm):=
  ⟨Np hc S hi.p (λ s H ex=>(hg s H ex).p) (λ s H ex=>(hf s H ex).p) (λ s H ex=>(he s H ex).p) hs,N7 hi.r (hg X.s₀ X.H₀ []).r (hf X.s₀ X.H₀ []).r (he X.s₀ X.H₀ []).r⟩
theorem Aj:QSs K X [] Gv AV:=⟨GE,IV⟩
theorem A7{st:Stmt}{rest:List Stmt}{u v:TS}{m1 m2:MS}(h1:QS K X st u m1)(h2:QSs K X rest v m2):QSs K X (st :: rest) (HK u v) (AD m1 m2):=⟨Hj h1.p h2.p,K0 h1.r h2.r⟩
theorem AL{st:Stmt}{u:TS}{m1:MS}(h1:QS K X st u m1):QSs K X [st] u m1:=⟨Ez h1.p,h1.r⟩
theorem Ib(he:QE K X e te me)(hs:swapsWith e none pos.line X.env=pure false:=by rfl):QS K X (.Expr e pos) (JC te) (FA me):=⟨Na he.p hs,N2 he.r⟩
theorem AW(he:QE K X e te me):QS K X (.Return (some e) pos) (FL te) (AM me):=⟨PH he.p,HV he.r⟩
theorem BJ{a b:List Stmt}{u v:TS}{m1 m2:MS}(hc:QT K X c tA nA)(ha:QSs K X a u m1)(hb:QSs K X b v m2):QS K X (.If c a b pos) (HM tA u v) (Ab nA m1 m2):=⟨MQ hc.p ha.p hb.p,MC hc.r ha.r hb.r⟩
theorem Hg{st:Stmt}:QS K X st FZ CQ:=⟨LW,HX⟩
theorem AZ{i:Nat}{pos':Pos}(hN:X.N.Nodup)(hi:X.N[i]? = some x)(hx:Loc X.env.scope x)(he:QE K X e te me)(hs:swapsWith e (some (.Name x pos')) pos.line X.env=pure false:=by rfl)(hf:X.fn x=true ∨ X.env.scope.names.lookup x=some .local:=by first|exact .inl rfl|exact .inr rfl|assumption) :
    QS K X (.Assign [.Name x pos'] e pos) (GA te (Fv i)) (Ac i me):=⟨Hk hN hi hx he.p hs hf,Of he.r IX⟩
theorem P4{i j:Nat}{x y:Str}{a b:Expr}{px py pt:Pos}{kt k2 pt2}(hc:X.calm=true)(hN:X.N.Nodup)(hi:X.N[i]? = some x)(hj:X.N[j]? = some y)(hij:i ≠ j)
    (hx:X.env.scope.names.lookup x=some .local) (hy:X.env.scope.names.lookup y=some .local) (ha:QA K X [a,b] t m)
    (hw:swappedStores [.Tuple [.Name x px,.Name y py] kt pt] (.Tuple [a,b] k2 pt2) X.env=pure (some [x,y]):=by rfl)
    (hs:swapsWithSole [.Tuple [.Name x px,.Name y py] kt pt] (.Tuple [a,b] k2 pt2) pos.line X.env=pure false:=by rfl) :
    QS K X (.Assign [.Tuple [.Name x px,.Name y py] kt pt] (.Tuple [a,b] k2 pt2) pos) (Kp i j t) (FS [i,j] m):=⟨PJ hc hN hi hj hij hx hy ha.p hw,Od ha.r⟩
theorem NP{i j k:Nat}{x y z:Str}{a b c:Expr}{px py pz pt:Pos}{kt k2 pt2}(hc:X.calm=true)(hN:X.N.Nodup)(hi:X.N[i]? = some x)(hj:X.N[j]? = some y)(hk:X.N[k]? = some z)
    (hx:X.env.scope.names.lookup x=some .local) (hy:X.env.scope.names.lookup y=some .local) (hz:X.env.scope.names.lookup z=some .local) (ha:QA K X [a,b,c] t m)
    (hw:swappedStores [.Tuple [.Name x px,.Name y py,.Name z pz] kt pt] (.Tuple [a,b,c] k2 pt2) X.env=pure (some [x,y,z]):=by rfl)
    (hs:swapsWithSole [.Tuple [.Name x px,.Name y py,.Name z pz] kt pt] (.Tuple [a,b,c] k2 pt2) pos.line X.env=pure false:=by rfl) :
    QS K X (.Assign [.Tuple [.Name x px,.Name y py,.Name z pz] kt pt] (.Tuple [a,b,c] k2 pt2) pos) (JB i j k t) (Fm i j k m):=⟨NZ hc hN hi hj hk hx hy hz ha.p hw hs,N0 ha.r⟩
theorem Ew{o i value:Expr}{pos':Pos}{td ty tv:TE}{md my mv:ME}(hu:X.A.units + 1 < cLine)(ho:QE K X o td md)(hi:QE K X i ty my)(hv:QE K X value tv mv)(hs:swapsWith value (some (.Subscript o i pos')) pos.line X.env=pure false:=by rfl) :
    QS K X (.Assign [.Subscript o i pos'] value pos) (JG td ty tv) (CT md my mv):=⟨Nb hu ho.p hi.p hv.p hs,N3 ho.r hi.r hv.r⟩
theorem NQ{o i value:Expr}{pos':Pos}{to ti tv:TE}{mo mi mv:ME}(ho:QE K X o to mo)(hi:QE K X i ti mi)(hv:QE K X value tv mv)(hs:swapsWithSole [.Subscript o i pos'] value pos.line X.env=pure false:=by rfl)(hw:swappedStores [.Subscript o i pos'] value X.env=pure none:=by rfl)
    (h1:(assignEach [.Subscript o i pos'] X.env).map (·.2)=[assign (.Subscript o i pos') X.env]:=by rfl)
    (ha:∀ v,assign (.Subscript o i pos') X.env v=(do
      let ov <- holding [v] (eval o X.env)
      let iv <- holding [v,ov] (eval i X.env)
      standAt pos'
      holding [v,ov,iv] (setItem ov iv v)
      release [v,ov,iv] []):=by intro _;rfl):QS K X (.Assign [.Subscript o i pos'] value pos) (GA tv (Lq to ti JN)) (Fp mo mi mv):=⟨PL hv.p (PQ ho.p hi.p Kw ha) hs hw h1,N1 ho.r hi.r hv.r⟩
theorem Ds{tg iter:Expr}{body:List Stmt}{wi:TI}{g:TG}{tb:TS}{mi:MI}{n:MG}{mb:MS}(hc:X.calm=true)(hi:QI K X tg iter wi mi)(hg:QG K X tg g n)(hb:QSs K X body tb mb)(hp:PassesOwn (model X.prog X.w) X.A X.env X.xe:=by exact PassesOwn.never)
    (hs:∀ x,foldedSetIterable iter X.env x=pure x:=by intro _;rfl):QS K X (.For tg iter body [] pos) (Ks wi g tb) (DR mi n mb):=⟨PK hp hc hi.p hg.p hb.p hs,Oe hi.r hg.r hb.r⟩
end
theorem BU{P:Program}{w:World}{K:PySem.W.Frag}{mg:Str->Option Value}{base:Heap}{x:Str}{st:Stmt}{f:Addr}{fd:FuncData}{N ps:List Str}{j:Nat}{m:MS}(DA:DefAt K mg x st f fd ps)(S:FnScope N ps (AC st))
    (h:∀ (cdv:Value) (A:Around) (outer:List Env) (s:Shared) (H:Hp) (E:XK),Room j (A.deeper (envOfC x (AC st) s.heap.objs.size f cdv))->∃ t,QSs K (DT CX0 P w K mg base N x (AC st) f cdv A outer s H E).nox (Af st) t m) :
    FnOk P w K mg base CX0 (j + 1) f fd ps (spF K ps.length (mkF ps.length N.length m)):=by
  refine DA.fn.ok S (λ vs H Q E h=>h.1) (λ cdv A outer s H vs Q E hr hs=>?_)
  obtain⟨t,q⟩:=h cdv A outer s H E hr
  exact⟨t,q.p,Mt q.r hs⟩
end L2
namespace L2
open PySem PySem.Spec PyProof.Rows
section
variable{X:Cx}{pins:List (Addr × Obj)}{σ:List (Option V)}{H H':Hp}{s:Shared}{h':Heap}
end
section
variable{prog:Program}{w:World}{A:Around}{E:Value->Shared->Prop}{s:Shared}{it l:Addr}{k:Nat}{xs:Array Value}{x:Value}
end
section
variable{prog:Program}{w:World}{A:Around}{E:Value->Shared->Prop}{s:Shared}{t1 t2:Bool}{z a b i1 i2 l1 l2:Addr}{j k:Nat}{xs ys:Array Value}{x y:Value}
end
section
variable{X:Cx}{pins:List (Addr × Obj)}{σ:List (Option V)}{H:Hp}{s:Shared}
end
end L2
namespace L2
open PySem PySem.Spec PyProof.Rows
section
variable{prog:Program}{w:World}{A:Around}{E:Value->Shared->Prop}{s:Shared}
end
section
variable{X:Cx}
end
section
variable{K:PySem.W.Frag}{ρ ρ':List Addr}{H H':Hp}{hd hd':Hd}
end
section
variable(K:PySem.W.Frag){X:Cx}{a b e:Expr}{ta tb te:TE}{me:ME}{m:MA}
end
section
variable{K:PySem.W.Frag}
noncomputable def Eh(ml:MA)(mb:ME):ME:=λ ls hd=>(ml ls hd).bind λ p=>(mb ls p.2).bind λ q=>match q.1 with
  | .im (.int i)=>(atI p.1 i).map (·,q.2)
  | _=>none
theorem Ot{ta tb:TE}{ml:MA}{mb:ME}(ha:RN K ta ml)(hb:RE K tb mb):RE K (tOp (Gw K) ta tb) (Eh ml mb):=by
  intro ρ σ H hd ls Q d hd' hR hL hm hQ
  obtain⟨⟨d1,h1⟩,e1,hm⟩:=Option.bind_eq_some_iff.mp hm
  obtain⟨⟨d2,h2⟩,e2,hm⟩:=Option.bind_eq_some_iff.mp hm
  dsimp only at hm
  split at hm
  . obtain⟨w,e3,e4⟩:=Option.map_eq_some_iff.mp hm
    cases e4
    refine ha ρ σ H hd ls _ d1 h1 hR hL e1 λ ρ1 H1 a xs x1 R1 na oa ea r1=>?_
    refine hb ρ1 σ H1 h1 ls _ _ _ R1 (hL.ext hR x1) e2 λ ρ2 H2 v2 x2 R2 r2=>?_
    simp only[RD,RI]at r2
    subst r2
    have r1':=r1.ext R1 x2
    obtain⟨j,j1,j2⟩:=Ix r1'.len e3
    obtain⟨x,y1,y2⟩:=r1'.get j1
    exact .inl ⟨a,xs,_,x,rfl,rfl,SqL.of (x2.keep a _ ea oa nt),j2 x y1,hQ ρ2 H2 x (x1.trans R1 x2) R2 y2⟩
  . cases hm
noncomputable def I0(neg:Bool)(x y:PyData)(hd:Hd):Option (D × Hd):=if x.canLay0=true/\y.canLay0=true/\min x.depth y.depth <= 60 then some (.im (.bl (if neg then !PyData.eqv x y else PyData.eqv x y)),hd)else none
noncomputable def Dd(neg:Bool)(ma:ME)(ml:MA):ME:=λ ls hd=>(ma ls hd).bind λ p=>(ml ls p.2).bind λ q=>(pyD q.2 p.1).bind λ x=>(Bb q.1).bind λ is=>I0 neg x (.list (I.pys is)) q.2
noncomputable def rEN(K:PySem.W.Frag)(neg:Bool):R2:=λ x y H Q=>∃ d e,Rep K H d x/\Rep K H e y/\d.canLay0=true/\e.canLay0=true/\min d.depth e.depth <= 60/\Q (.bl (if neg then !PyData.eqv d e else PyData.eqv d e)) H
theorem ND{ρ:List Addr}{H:Hp}{a:Addr}{xs:List V}{ds:List D}{is:List I}(ea:H a=some (.lst xs))(r:RDs K ρ H ds xs)(e:Bb ds=some is):Rep K H (.list (I.pys is)) (.ref a):=by
  rw[EI e]at r
  simp only[Rep]
  exact⟨a,xs,rfl,SqL.of ea,r.is.rep⟩
theorem NF{neg:Bool}{ta tb:TE}{ma:ME}{ml:MA}(ha:RE K ta ma)(hb:RN K tb ml):RE K (tOp (rEN K neg) ta tb) (Dd neg ma ml):=by
  intro ρ σ H hd ls Q d hd' hR hL hm hQ
  obtain⟨⟨d1,h1⟩,e1,hm⟩:=Option.bind_eq_some_iff.mp hm
  obtain⟨⟨d2,h2⟩,e2,hm⟩:=Option.bind_eq_some_iff.mp hm
  obtain⟨x,e3,hm⟩:=Option.bind_eq_some_iff.mp hm
  obtain⟨is,e4,hm⟩:=Option.bind_eq_some_iff.mp hm
  unfold I0 at hm
  split at hm
  . next c=>
    cases hm
    refine ha ρ σ H hd ls _ d1 h1 hR hL e1 λ ρ1 H1 v x1 R1 r1=>?_
    refine hb ρ1 σ H1 h1 ls _ d2 _ R1 (hL.ext hR x1) e2 λ ρ2 H2 a xs x2 R2 na oa ea r2=>?_
    exact⟨_,_,DC R2 (r1.ext R1 x2) e3,ND ea r2 e4,c.1,c.2.1,c.2.2,hQ ρ2 H2 _ (x1.trans R1 x2) R2 (by simp[RD,RI])⟩
  . cases hm
end
theorem PZ(K:PySem.W.Frag){X:Cx}(hu:X.A.units + 64 < cLine)(hK:X.K=K:=by rfl):OpR X (compareOp .NotEq) (rEN K true):=DD K hu hK
section
variable(K:PySem.W.Frag){X:Cx}{a b e:Expr}{ta tb te:TE}{ma mb me:ME}{m mk:MA}{pos:Pos}{op:CmpOp}{neg:Bool}
theorem Fg(ha:QN K X a ta m)(hb:QE K X b tb mb)(hs:GT b:=by exact λ _ _=>rfl)(hK:X.K=K:=by rfl):QE K X (.Subscript a b pos) (tOp (Gw K) ta tb) (Eh m mb):=⟨MU ((Hy K hK).or (Io K hK)) ha.p hb.p hs,Ot ha.r hb.r⟩
theorem NO(ho:OpR X (compareOp op) (rEN K neg))(ha:QE K X a ta ma)(hb:QN K X b tb m)(hm:behindInMarks op b=false:=by first|exact KF _|rfl):QT K X (.Compare a [op] [b] pos) (Gu (tOp (rEN K neg) ta tb)) (AJ (Dd neg ma m)):=⟨Ij ho ha.p hb.p hm,IU (NF ha.r hb.r)⟩
end
end L2
namespace L2
open PySem PySem.Spec PyProof.Rows
section
variable{prog:Program}{w:World}{A:Around}{E:Value->Shared->Prop}{s:Shared}
end
section
variable{X:Cx}
end
section
variable{K:PySem.W.Frag}
open Classical in
noncomputable def Li(m:MA):MA:=λ ls hd=>(m ls hd).bind λ p=>match p.1 with
  | [.im (.int j)]=>if MF j then some (BD 0 j.toNat,p.2)else none
  | [.im (.int i),.im (.int j)]=>if MD i j then some (BD i (j - i).toNat,p.2)else none
  | _=>none
noncomputable def Qu(m:MA):ME:=λ ls hd=>(Li m ls hd).bind λ p=>some (BP p.1,p.2)
noncomputable def MB(xs:List Int):List Int:=xs.mergeSort (λ a b=>decide (a <= b))
noncomputable def O6(m:MI):MA:=λ ls hd=>(m ls hd).bind λ p=>(FE p.1.1).bind λ ns=>if ns.length < 64 then some ((MB ns).map λ i=>.im (.int i),p.2)else none
end
section
variable(K:PySem.W.Frag){X:Cx}{a b e:Expr}{ta tb te:TE}{me:ME}{m:MA}{t:TA}{p p2 pos pos2:Pos}{es:List Expr}
end
end L2
namespace L2
structure BltA(mg:PySem.Str->Option PySem.Value):Prop where
  list:mg "list"=none
  tuple:mg "tuple"=none
  len:mg "len"=none
  range:mg "range"=none
  repr:mg "repr"=none
  sum:mg "sum"=none
  min:mg "min"=none
  max:mg "max"=none
  abs:mg "abs"=none
  all:mg "all"=none
  any:mg "any"=none
  sorted:mg "sorted"=none
  zip:mg "zip"=none
  isinstance:mg "isinstance"=none
  int:mg "int"=none
  bool:mg "bool"=none
  str:mg "str"=none
  set:mg "set"=none
  enumerate:mg "enumerate"=none
  reversed:mg "reversed"=none
  dict:mg "dict"=none
end L2
namespace L2
open PySem PySem.Spec PyProof.Rows
section
variable{ls:Ls}{hd:Hd}{a b c:MS}{ma mb mc:ME}{ta tb:MT}{m m1 m2:MA}{n:MG}{ns:MGs}{d e:D}
@[simp] theorem Pu:AD a b ls hd=(a ls hd).bind λ p=>match p.1 with
  | .nx ls1=>b ls1 p.2
  | f=>some (f,p.2):=rfl
@[simp] theorem SL:AV ls hd=some (.nx ls,hd):=rfl
@[simp] theorem SQ:FA ma ls hd=(ma ls hd).bind λ p=>some (.nx ls,p.2):=rfl
@[simp] theorem Sk:AM ma ls hd=(ma ls hd).bind λ p=>some (.rt p.1,p.2):=rfl
@[simp] theorem SG:Qv ls hd=some (.rt (.im .non),hd):=rfl
@[simp] theorem S0:Pk ls hd=some (.bk ls,hd):=rfl
@[simp] theorem SV:Qy ls hd=some (.ct ls,hd):=rfl
@[simp] theorem Ss:Ab ta a b ls hd=(ta ls hd).bind λ p=>if p.1=true then a ls p.2 else b ls p.2:=rfl
@[simp] theorem KW:Lj ma n ls hd=(ma ls hd).bind λ p=>(n p.1 ls p.2).map λ ls'=>(.nx ls',p.2):=rfl
@[simp] theorem OF(i:Nat):Av i d ls hd=some (ls.set i (some d)):=rfl
@[simp] theorem SI(k:Nat):E9 k ns d ls hd=(Ag d).bind λ ds=>if ds.length=k then ns ds ls hd else none:=rfl
@[simp] theorem Rv(d:D)(ds:List D):Bp n ns (d :: ds) ls hd=(n d ls hd).bind λ ls1=>ns ds ls1 hd:=rfl
@[simp] theorem SK:EA [] ls hd=some ls:=rfl
@[simp] theorem Pv(ix:List Nat):FS ix m ls hd=(m ls hd).bind λ p=>if p.1.length=ix.length then some (.nx ((ix.zip p.1).foldl (λ l q=>l.set q.1 (some q.2)) ls),p.2)else none:=rfl
@[simp] theorem SH(i j k:Nat):Fm i j k m ls hd=FS [k,j,i] (λ ls hd=>(m ls hd).map λ p=>(p.1.reverse,p.2)) ls hd:=rfl
@[simp] theorem Pr(i:Nat):A0 i ls hd=match ls[i]? with
  | some (some d)=>some (d,hd)
  | _=>none:=rfl
@[simp] theorem Td(i:I):mC i ls hd=some (.im i,hd):=rfl
@[simp] theorem TM(f:D->D->Hd->Option (D × Hd)):mOp f ma mb ls hd=(ma ls hd).bind λ p=>(mb ls p.2).bind λ q=>f p.1 q.1 q.2:=rfl
@[simp] theorem Sx:GN ta tb ls hd=(ta ls hd).bind λ p=>if p.1=true then tb ls p.2 else some (false,p.2):=rfl
@[simp] theorem TL:mOr ta tb ls hd=(ta ls hd).bind λ p=>if p.1=true then some (true,p.2)else tb ls p.2:=rfl
@[simp] theorem Sm:GK ta ls hd=(ta ls hd).bind λ p=>some (!p.1,p.2):=rfl
@[simp] theorem Ps:GJ ma ls hd=(ma ls hd).bind λ p=>(Cs p.2 p.1).map (·,p.2):=rfl
@[simp] theorem OD:AJ ma ls hd=(ma ls hd).bind λ p=>match p.1 with
  | .im (.bl b)=>some (b,p.2)
  | _=>none:=rfl
@[simp] theorem TN:mIf ta ma mb ls hd=(ta ls hd).bind λ p=>if p.1=true then ma ls p.2 else mb ls p.2:=rfl
@[simp] theorem SY:Qz ma mb ls hd=(AJ ma ls hd).bind λ p=>if p.1=true then mb ls p.2 else some (.im (.bl false),p.2):=rfl
@[simp] theorem Sl:Rp ma mb ls hd=(AJ ma ls hd).bind λ p=>if p.1=true then some (.im (.bl true),p.2)else mb ls p.2:=rfl
@[simp] theorem SJ:Qw ma ls hd=(AJ ma ls hd).bind λ p=>some (.im (.bl (!p.1)),p.2):=rfl
@[simp] theorem Sn:A8 ls hd=some ([],hd):=rfl
@[simp] theorem SW:A2 ma m ls hd=(ma ls hd).bind λ p=>(m ls p.2).bind λ q=>some (p.1 :: q.1,q.2):=rfl
open Classical in
@[simp] theorem Sh:BB m ls hd=(m ls hd).bind λ p=>if Bi p.1.length then some (BP p.1,p.2)else none:=rfl
open Classical in
@[simp] theorem Sq:CS m ls hd=(m ls hd).bind λ p=>if Bi p.1.length then some (p.1,p.2)else none:=rfl
@[simp] theorem So:Be m ls hd=(m ls hd).bind λ p=>some (.mu p.2.length,p.2 ++ [.lst p.1]):=rfl
@[simp] theorem Pw:Hv ma ls hd=(ma ls hd).bind λ p=>match p.1 with
  | .im (.int i)=>some (.im (.int (-i)),p.2)
  | _=>none:=rfl
@[simp] theorem Sr(neg:Bool):Rq neg ma ls hd=(ma ls hd).bind λ p=>some (.im (.bl (match p.1 with
  | .im .non=>!neg
  | _=>neg)),p.2):=rfl
@[simp] theorem TQ(g:Int->Int->Option I)(i j:Int):fI g (.im (.int i)) (.im (.int j)) hd=(g i j).map (.im ·,hd):=rfl
@[simp] theorem SO(f g:D->D->Hd->Option (D × Hd)):FF f g d e hd=match f d e hd with
  | some z=>some z
  | none=>g d e hd:=rfl
@[simp] theorem Sw(neg:Bool)(i j:Int):Di neg (.im (.int i)) (.im (.int j)) hd=some (.im (.bl (if neg then !decide (i=j)else decide (i=j))),hd):=by simp[Di,scI,HU]
@[simp] theorem Sv(neg:Bool)(i j:Str):Di neg (.im (.str i)) (.im (.str j)) hd=some (.im (.bl (if neg then !decide (i=j)else decide (i=j))),hd):=by simp[Di,scI,HU]
@[simp] theorem RK(i:Int):gIx d (.im (.int i)) hd=(BF hd d).bind λ ds=>(atI ds i).map (·,hd):=rfl
@[simp] theorem SU:BZ d e hd=(DE hd d).bind λ kvs=>(Cc e).bind λ k=>(Bx kvs k).map (·,hd):=rfl
@[simp] theorem TR(f:List D->Hd->Option (D × Hd)):mCB f m ls hd=(m ls hd).bind λ p=>f p.1 p.2:=rfl
@[simp] theorem RO(tp:Bool)(g:List D->Option D):f1 tp g [d] hd=((if tp then BF hd d else B9 hd d)).bind λ ds=>(g ds).map (·,hd):=rfl
@[simp] theorem Q2(g:List D->Option D):GM g m ls hd=(m ls hd).bind λ p=>(g p.1).map (·,p.2):=rfl
@[simp] theorem RJ(f:D->List D->Hd->Option (D × Hd)):mMt f ma m ls hd=(ma ls hd).bind λ p=>match B9 p.2 p.1 with
  | some _=>(m ls p.2).bind λ q=>f p.1 q.1 q.2
  | none=>none:=rfl
@[simp] theorem SN(i j:Int):Mc [.im (.int i),.im (.int j)] hd=some (.im (.int (if j > i then j else i)),hd):=rfl
@[simp] theorem SM(i j:Int):Fz [.im (.int i),.im (.int j)] hd=some (.im (.int (if j < i then j else i)),hd):=rfl
@[simp] theorem Sy(i:Int):Rs [.im (.int i)] hd=some (.im (.int (if i < 0 then -i else i)),hd):=rfl
@[simp] theorem Px:Eh m ma ls hd=(m ls hd).bind λ p=>(ma ls p.2).bind λ q=>match q.1 with
  | .im (.int i)=>(atI p.1 i).map (·,q.2)
  | _=>none:=rfl
@[simp] theorem Py:DQ ma ls hd=(ma ls hd).bind λ p=>(Ag p.1).map λ ds=>((ds,[]),p.2):=rfl
@[simp] theorem Q1:Pi m ls hd=(m ls hd).map λ p=>((p.1,[]),p.2):=rfl
@[simp] theorem Q0:Df ma ls hd=(ma ls hd).bind λ p=>match p.1 with
  | .mu n=>match p.2[n]? with
    | some (.lst ds)=>some ((ds,[(n,ds)]),p.2)
    | _=>none
  | .ro ns=>some ((ns.map λ n=>.im (.int n),[]),p.2)
  | _=>none:=rfl
open Classical in
@[simp] theorem Pz:GL m ls hd=(m ls hd).bind λ p=>match p.1 with
  | [.im (.int j)]=>if GB j then some ((BD 0 j.toNat,[]),p.2)else none
  | _=>none:=rfl
open Classical in
@[simp] theorem OI:Ma m ls hd=(m ls hd).bind λ p=>match p.1 with
  | [.im (.int i),.im (.int j)]=>if L7 i j then some ((BD i (j - i).toNat,[]),p.2)else none
  | _=>none:=rfl
@[simp] theorem Su(mi:MI):DR mi n a ls hd=(mi ls hd).bind λ p=>BQ n a p.1.2 p.1.1 ls p.2:=rfl
open Classical in
@[simp] theorem SX(k:Nat)(ix:List Nat)(mi:MI):CG k ix mi n ta ma ls hd=(mi ls hd).bind λ p=>if Bi p.1.1.length then BN n ta ma p.1.2 p.1.1 (De k ix ls) p.2 else none:=rfl
@[simp] theorem Sg:Ct ls hd=some (true,hd):=rfl
@[simp] theorem Rz(F:List D->Hd->Option (D × Hd)):Ej F m ls hd=(m ls hd).bind λ p=>F p.1 p.2:=rfl
@[simp] theorem Rc:Cb ls hd=some (none,hd):=rfl
@[simp] theorem OE:EC ma ls hd=(ma ls hd).bind λ p=>match p.1 with
  | .im (.int i)=>some (some i,p.2)
  | _=>none:=rfl
@[simp] theorem OH:Fo ma ls hd=(ma ls hd).bind λ p=>(BF p.2 p.1).map (·,p.2):=rfl
@[simp] theorem Rx:Eg m ls hd=m ls hd:=rfl
@[simp] theorem Si(ml mh:MO1):Hu ma ml mh ls hd=(ma ls hd).bind λ p=>(ml ls p.2).bind λ l=>(mh ls l.2).bind λ h=>(B9 h.2 p.1).bind λ ds=>some (DU ds l.1 h.1,h.2):=rfl
@[simp] theorem Pt(ml mh:MO1):Ht ma ml mh ls hd=(ma ls hd).bind λ p=>(ml ls p.2).bind λ l=>(mh ls l.2).bind λ h=>(Ag p.1).bind λ ds=>if ¬ (HT.sIx ds.length 0 l.1=0/\HT.sIx ds.length ds.length h.1=ds.length)then some (BP (DU ds l.1 h.1),h.2)else none:=rfl
@[simp] theorem SE:Qu m ls hd=(Li m ls hd).bind λ p=>some (BP p.1,p.2):=rfl
open Classical in
@[simp] theorem Sj:Li m ls hd=(m ls hd).bind λ p=>match p.1 with
  | [.im (.int j)]=>if MF j then some (BD 0 j.toNat,p.2)else none
  | [.im (.int i),.im (.int j)]=>if MD i j then some (BD i (j - i).toNat,p.2)else none
  | _=>none:=rfl
@[simp] theorem Ra(mi:MI):O6 mi ls hd=(mi ls hd).bind λ p=>(FE p.1.1).bind λ ns=>if ns.length < 64 then some ((MB ns).map λ i=>.im (.int i),p.2)else none:=rfl
@[simp] theorem SS(ms:List (ME × ME)):Fq ms ls hd=(Cp ms ls hd).bind λ p=>if p.1.length <= 15 then some (.mu p.2.length,p.2 ++ [.dic (Dw [] p.1)])else none:=rfl
@[simp] theorem Rb:Cp [] ls hd=some ([],hd):=rfl
@[simp] theorem Ru(r:List (ME × ME)):Cp ((ma,mb) :: r) ls hd=(ma ls hd).bind λ p=>(mb ls p.2).bind λ q=>(Cp r ls q.2).bind λ z=>(Cc p.1).map λ k=>((k,q.1) :: z.1,z.2):=rfl
open Classical in
@[simp] theorem SR:CT ma mb mc ls hd=(mc ls hd).bind λ p=>(ma ls p.2).bind λ q=>(mb ls q.2).bind λ r=>(Cc r.1).bind λ k=>match q.1 with
  | .mu n=>match r.2[n]? with
    | some (.dic kvs)=>if EH kvs.length then some (.nx ls,r.2.set n (.dic (CP kvs k p.1)))else none
    | _=>none
  | _=>none:=rfl
@[simp] theorem OG:Fp ma mb mc ls hd=(mc ls hd).bind λ p=>(ma ls p.2).bind λ q=>(mb ls q.2).bind λ r=>match q.1,r.1 with
  | .mu n,.im (.int i)=>match r.2[n]? with
    | some (.lst ds)=>(ixN ds.length i).map λ j=>(.nx ls,r.2.set n (.lst (ds.set j p.1)))
    | _=>none
  | _,_=>none:=rfl
@[simp] theorem SZ(is:List I):Ag (.im (.tup is))=some (is.map .im):=rfl
@[simp] theorem T4(ds:List D):Ag (.tm ds)=some ds:=rfl
@[simp] theorem T6(k:Nat):Ag (.mu k)=none:=rfl
@[simp] theorem T5(k:List Int):Ag (.ro k)=none:=rfl
@[simp] theorem Sc(is:List I):BF hd (.im (.tup is))=some (is.map .im):=rfl
@[simp] theorem TB(ds:List D):BF hd (.tm ds)=some ds:=rfl
@[simp] theorem TD(k:Nat):BF hd (.mu k)=B9 hd (.mu k):=rfl
@[simp] theorem TC(k:List Int):BF hd (.ro k)=some (k.map λ n=>.im (.int n)):=rfl
@[simp] theorem TH(k:Nat):B9 hd (.mu k)=match hd[k]? with
    | some (.lst ds)=>some ds
    | _=>none:=rfl
@[simp] theorem TF(k:List Int):B9 hd (.ro k)=some (k.map λ n=>.im (.int n)):=rfl
@[simp] theorem TU(k:Nat):DE hd (.mu k)=match hd[k]? with
    | some (.dic ds)=>some ds
    | _=>none:=rfl
@[simp] theorem TK(i:Int):Cc (.im (.int i))=some (.inl i):=rfl
@[simp] theorem TJ(i:Str):Cc (.im (.str i))=some (.inr i):=rfl
@[simp] theorem T3:Bb []=some []:=rfl
@[simp] theorem TW(i:I)(r:List D):Bb (.im i :: r)=(Bb r).map (i :: ·):=rfl
@[simp] theorem Se:FE []=some []:=rfl
@[simp] theorem Sf(i:Int)(r:List D):FE (.im (.int i) :: r)=(FE r).map (i :: ·):=rfl
@[simp] theorem T2:Jl []=some []:=rfl
@[simp] theorem TV(i:Bool)(r:List D):Jl (.im (.bl i) :: r)=(Jl r).map (i :: ·):=rfl
@[simp] theorem Ca(is:List I):BP (is.map .im)=.im (.tup is):=by simp[BP]
@[simp] theorem RZ:BP []=.im (.tup []):=rfl
@[simp] theorem SC(i:I):BP [.im i]=.im (.tup [i]):=rfl
@[simp] theorem SB(i j:I):BP [.im i,.im j]=.im (.tup [i,j]):=rfl
@[simp] theorem SA(i j k:I):BP [.im i,.im j,.im k]=.im (.tup [i,j,k]):=rfl
@[simp] theorem S9(i j k l:I):BP [.im i,.im j,.im k,.im l]=.im (.tup [i,j,k,l]):=rfl
@[simp] theorem T1(w:Nat)(i:I):clD w (.im i)=true:=by simp[clD]
@[simp] theorem Sz(w n:Nat):clD w (.mu n)=decide (n < w):=by simp[clD]
@[simp] theorem S1(w:Nat):BI w []=true:=by simp[BI]
@[simp] theorem Kg(w:Nat)(d:D)(ds:List D):BI w (d :: ds)=(clD w d && BI w ds):=by simp[BI]
@[simp] theorem BV{α:Type}(x:α)(r:List α):atI (x :: r) 0=some x:=BA (j:=0) rfl
@[simp] theorem DV{α:Type}(x y:α)(r:List α):atI (x :: y :: r) 1=some y:=BA (j:=1) rfl
@[simp] theorem QJ{α:Type}(x y z:α)(r:List α):atI (x :: y :: z :: r) 2=some z:=BA (j:=2) rfl
theorem S2{α:Type}{xs:List α}{i:Int}{k:Nat}{x:α}(hi:i=k)(h:xs[k]? = some x):atI xs i=some x:=by subst hi;exact BA h
@[simp] theorem Fy:Bi 0:=BH (by decide)
@[simp] theorem En:Bi 1:=BH (by decide)
@[simp] theorem B4:Bi 2:=BH (by decide)
@[simp] theorem Fx:Bi 3:=BH (by decide)
@[simp] theorem KS:Bi 4:=BH (by decide)
@[simp] theorem KR:Bi 5:=BH (by decide)
@[simp] theorem SD:EH 4:=FT (by decide)
open Classical in
@[simp] theorem Q3(k:Nat)(x:D):Cd (.mu k) [x] hd=match hd[k]? with
    | some (.lst ds)=>if EH ds.length then some (.im .non,hd.set k (.lst (ds ++ [x])))else none
    | _=>none:=rfl
theorem Gf{F:List D->Hd->Option (D × Hd)}{ds:List D}{hd1 h2:Hd}{i:I}(h1:m ls hd=some (ds,hd1))(hc:BI 0 ds=true)(hF:F ds []=some (.im i,h2)):AF 0 F m ls hd=some (.im i,hd1):=by
  simp[AF,h1,hc,hF,fin]
theorem Jk{F:List D->Hd->Option (D × Hd)}{ds es:List D}{hd1 h2:Hd}{k:Nat}(h1:m ls hd=some (ds,hd1))(hc:BI 0 ds=true)(hF:F ds []=some (.mu k,h2))(hk:h2[k]? = some (.lst es))(hes:BI 0 es=true):AF 0 F m ls hd=some (.mu hd1.length,hd1 ++ [.lst es]):=by
  simp[AF,h1,hc,hF,fin,hk,hes]
theorem II{w:Nat}{F:List D->Hd->Option (D × Hd)}{ds:List D}{pre pre' rest g:Hd}{i:I}(hw:pre.length=w)(hw':pre'.length=w)(h1:m ls hd=some (ds,pre ++ rest))(hc:BI w ds=true)(hp:pre.all (clO w)=true)(hp':pre'.all (clO w)=true)(hF:F ds pre=some (.im i,pre' ++ g)):AF w F m ls hd=some (.im i,pre' ++ rest):=by
  subst hw
  have e1:(pre ++ rest).take pre.length=pre:=by simp
  have e2:(pre' ++ g).take pre.length=pre':=by rw[<- hw'];simp
  simp only[AF,h1,Option.bind_some,e1,hc,hp,hF,fin,e2,hp']
  simp
end
theorem Ll{n:MG}{b:MS}{g:Gd}{ls:Ls}{hd:Hd}:BQ n b g [] ls hd=some (.nx ls,hd):=by unfold BQ;rfl
theorem KJ{n:MG}{b:MS}{g:Gd}{d:D}{r:List D}{ls ls1 ls2:Ls}{hd hd2:Hd}(h1:n d ls hd=some ls1)(h2:b ls1 hd=some (.nx ls2,hd2))(h3:GOk hd2 g):BQ n b g (d :: r) ls hd=BQ n b g r ls2 hd2:=by
  conv=>lhs;unfold BQ
  simp[h1,h2,h3]
theorem Lk{n:MG}{b:MS}{g:Gd}{d v:D}{r:List D}{ls ls1:Ls}{hd hd2:Hd}(h1:n d ls hd=some ls1)(h2:b ls1 hd=some (.rt v,hd2)):BQ n b g (d :: r) ls hd=some (.rt v,hd2):=by
  conv=>lhs;unfold BQ
  simp[h1,h2]
end L2
namespace L2
open PySem PySem.Spec PyProof.Rows
section
variable{prog:Program}{w:World}{A:Around}{R:Result->Shared->Prop}{s:Shared}{elt tg iter tg2 iter2:Expr}{ifs ifs2:List Expr}{scope:Scope}{pos:Pos}{it acc:Value}{env:Env}
end
end L2
namespace L2
open PySem PySem.Spec PyProof.Rows
section
variable{X:Cx}
end
end L2
namespace L2
open PySem PySem.Spec PyProof.Rows
open Classical in
noncomputable def mIn(k:Nat)(n:MG)(c:MT)(m:ME)(g:Gd):List D->Ls->Hd->Option (Ls × Hd)
  | [],ls,hd=>some (ls,hd)
  | d :: r,ls,hd=>(n d ls hd).bind λ ls1=>(c ls1 hd).bind λ p=>if p.1=true then(m ls1 p.2).bind λ q=>(Cd (.mu k) [q.1] q.2).bind λ z=>if GOk z.2 g then mIn k n c m g r ls1 z.2 else none else if GOk p.2 g then mIn k n c m g r ls1 p.2 else none
open Classical in
noncomputable def JZ(k:Nat)(n:MG)(c:MT)(mi:MI)(n2:MG)(c2:MT)(m:ME)(g:Gd):List D->Ls->Hd->Option Hd
  | [],ls,hd=>some hd
  | d :: r,ls,hd=>(n d ls hd).bind λ ls1=>(c ls1 hd).bind λ p=>if p.1=true then(mi ls1 p.2).bind λ q=>(mIn k n2 c2 m q.1.2 q.1.1 ls1 q.2).bind λ z=>if GOk z.2 g then JZ k n c mi n2 c2 m g r z.1 z.2 else none else if GOk p.2 g then JZ k n c mi n2 c2 m g r ls1 p.2 else none
noncomputable def Pj(j:Nat)(ix:List Nat)(mi:MI)(n:MG)(c:MT)(mi2:MI)(n2:MG)(c2:MT)(m:ME):ME:=λ ls hd=>(mi ls hd).bind λ p=>(JZ p.2.length n c mi2 n2 c2 m p.1.2 p.1.1 (De j ix ls) (p.2 ++ [.lst []])).map λ h=>(.mu p.2.length,h)
section
variable{K:PySem.W.Frag}{ρ:List Addr}{H:Hp}{hd:Hd}
end
end L2
namespace L2
open PySem PySem.Spec PyProof.Rows
open Classical in
noncomputable def Ei(ma mb:ME):MA:=λ ls hd=>(ma ls hd).bind λ p=>(mb ls p.2).bind λ q=>match p.1,q.1 with
  | .mu i,.mu j=>match q.2[i]?,q.2[j]? with
    | some (.lst xs),some (.lst ys)=>if Bi (xs.length + ys.length)then some (xs ++ ys,q.2)else none
    | _,_=>none
  | _,_=>none
theorem Oj{K:PySem.W.Frag}{ta tb:TE}{ma mb:ME}(ha:RE K ta ma)(hb:RE K tb mb):RN K (tOp LJ ta tb) (Ei ma mb):=by
  intro ρ σ H hd ls Q d hd' hR hL hm hQ
  obtain⟨⟨d1,h1⟩,e1,hm⟩:=Option.bind_eq_some_iff.mp hm
  obtain⟨⟨d2,h2⟩,e2,hm⟩:=Option.bind_eq_some_iff.mp hm
  dsimp only at hm
  split at hm
  . next i j=>
    split at hm
    . next xs ys q1 q2=>
      split at hm
      . next c=>
        cases hm
        refine ha ρ σ H hd ls _ _ h1 hR hL e1 λ ρ1 H1 v x1 R1 r1=>?_
        refine hb ρ1 σ H1 h1 ls _ _ _ R1 (hL.ext hR x1) e2 λ ρ2 H2 u x2 R2 r2=>?_
        have r1':=r1.ext R1 x2
        simp only[RD]at r1' r2
        obtain⟨a,ka,rfl⟩:=r1'
        obtain⟨b,kb,rfl⟩:=r2
        obtain⟨vs,f1,f2⟩:=R2.lst ka q1
        obtain⟨us,f3,f4⟩:=R2.lst kb q2
        refine⟨a,b,vs,us,rfl,rfl,f1,f3,by rw[f2.len,f4.len];exact c,λ p hp=>?_⟩
        obtain⟨R3,x3⟩:=R2.hid (ho:=.lst (vs ++ us)) hp
        have x12:=x1.trans R1 x2
        exact hQ ρ2 _ p _ (x12.trans R2 x3) R3 (x12.none hR hp R2) (R2.out hp) AQ ((f2.app f4).ext R2 x3)
      . cases hm
    . cases hm
  . cases hm
theorem K6(K:PySem.W.Frag){X:Cx}{a b:Expr}{pos:Pos}{ta tb:TE}{ma mb:ME}(ha:QE K X a ta ma)(hb:QE K X b tb mb):QN K X (.BinOp a .Add b pos) (tOp LJ ta tb) (Ei ma mb):=⟨MR Pc ha.p hb.p,Oj ha.r hb.r⟩
@[simp] theorem Ry(j:Nat)(ix:List Nat)(mi mi2:MI)(n n2:MG)(c c2:MT)(m:ME)(ls:Ls)(hd:Hd):Pj j ix mi n c mi2 n2 c2 m ls hd=(mi ls hd).bind λ p=>(JZ p.2.length n c mi2 n2 c2 m p.1.2 p.1.1 (De j ix ls) (p.2 ++ [.lst []])).map λ h=>(.mu p.2.length,h):=rfl
end L2
namespace L2
open PySem PySem.Spec PyProof.Rows PySem.W
section
variable(r:Nat->Int)(n:Nat)
noncomputable def kv(p:Array Nat)(i:Nat):Int:=r (p.getD i 0)
end
section
variable{r:Nat->Int}{n:Nat}
end
end L2
namespace L2
open PySem PySem.Spec PyProof.Rows PySem.W
noncomputable def PM(p:Int × Int):Int:=p.1 * 4000000000 + p.2
noncomputable def pok(p:Int × Int):Prop:=-1000000000 <= p.1/\p.1 <= 1000000000/\-1000000000 <= p.2/\p.2 <= 1000000000
section
variable{prog:Program}{w:World}{A:Around}{E:Value->Shared->Prop}{s:Shared}
end
end L2
namespace L2
open PySem PySem.Spec PyProof.Rows PySem.W
section
variable{prog:Program}{w:World}{A:Around}{E:Value->Shared->Prop}{s:Shared}
end
section
variable(K:PySem.W.Frag){X:Cx}
end
noncomputable def B6(p:Int × Int):D:=.im (.tup [.int p.1,.int p.2])
noncomputable def Ho:List D->Option (List (Int × Int))
  | []=>some []
  | .im (.tup [.int a,.int b]) :: r=>(Ho r).map ((a,b) :: ·)
  | _=>none
noncomputable def M9(ps:List (Int × Int)):List (Int × Int):=ps.mergeSort λ a b=>decide (PM a <= PM b)
open Classical in
noncomputable def Lh(m:MI):MA:=λ ls hd=>(m ls hd).bind λ p=>(Ho p.1.1).bind λ ps=>if ps.length < 64/\∀ q ∈ ps,pok q then some ((M9 ps).map B6,p.2)else none
section
variable{K:PySem.W.Frag}{ρ:List Addr}{H:Hp}{hd:Hd}
open Classical in
noncomputable def Pq:D->List D->Hd->Option (D × Hd)
  | .mu n,[.im (.int i)],hd=>match hd[n]? with
    | some (.lst ds)=>if GB i then(ixN ds.length i).bind λ k=>(ds[k]?).map λ y=>(y,hd.set n (.lst (ds.eraseIdx k)))else none
    | _=>none
  | _,_,_=>none
end
end L2
namespace L2
open PySem PySem.Spec PyProof.Rows PySem.W
section
variable(K:PySem.W.Frag){X:Cx}{e:Expr}{te:TE}{p pos:Pos}
end
section
variable{ls:Ls}{hd:Hd}
open Classical in
@[simp] theorem Rt(k:Nat)(i:Int):Pq (.mu k) [.im (.int i)] hd=match hd[k]? with
    | some (.lst ds)=>if GB i then(ixN ds.length i).bind λ j=>(ds[j]?).map λ y=>(y,hd.set k (.lst (ds.eraseIdx j)))else none
    | _=>none:=rfl
open Classical in
@[simp] theorem R9(mi:MI):Lh mi ls hd=(mi ls hd).bind λ p=>(Ho p.1.1).bind λ ps=>if ps.length < 64/\∀ q ∈ ps,pok q then some ((M9 ps).map B6,p.2)else none:=rfl
end
end L2
namespace L2
open PySem PySem.Spec PyProof.Rows PySem.W
section
variable{m:ME}{ls:Ls}{hd hd':Hd}
end
end L2
namespace L2
open PySem PySem.Spec PyProof.Rows PySem.W
end L2
namespace L2
open PySem PySem.Spec PyProof.Rows
section
variable{prog:Program}{w:World}{A:Around}{R:Result->Shared->Prop}{s:Shared}
end
section
variable{X:Cx}
end
end L2
namespace L2
open PySem PySem.Spec PyProof.Rows
section
variable{K:PySem.W.Frag}{ρ ρ':List Addr}{H H':Hp}{hd hd':Hd}
variable(K:PySem.W.Frag){X:Cx}
variable{a b:Expr}{ta tb:TE}{ma mb:ME}{pos:Pos}
end
end L2
namespace L2
open PySem PySem.Spec PyProof.Rows
noncomputable def WP{α:Type}(o:Option (α × Hd))(Q:α->Hd->Prop):Prop:=∃ z h,o=some (z,h)/\Q z h
noncomputable abbrev WS(m:MS)(ls:Ls)(hd:Hd)(Q:Fl->Hd->Prop):Prop:=WP (m ls hd) Q
noncomputable abbrev WE(m:ME)(ls:Ls)(hd:Hd)(Q:D->Hd->Prop):Prop:=WP (m ls hd) Q
noncomputable abbrev WT(m:MT)(ls:Ls)(hd:Hd)(Q:Bool->Hd->Prop):Prop:=WP (m ls hd) Q
noncomputable abbrev WA(m:MA)(ls:Ls)(hd:Hd)(Q:List D->Hd->Prop):Prop:=WP (m ls hd) Q
noncomputable abbrev WO(m:MO1)(ls:Ls)(hd:Hd)(Q:Option Int->Hd->Prop):Prop:=WP (m ls hd) Q
noncomputable abbrev WI(m:MI)(ls:Ls)(hd:Hd)(Q:List D × Gd->Hd->Prop):Prop:=WP (m ls hd) Q
noncomputable abbrev WF(F:List D->Hd->Option (D × Hd))(ds:List D)(hd:Hd)(Q:D->Hd->Prop):Prop:=WP (F ds hd) Q
section
variable{α β:Type}{o:Option (α × Hd)}{Q:α->Hd->Prop}{R:β->Hd->Prop}{ls:Ls}{hd:Hd}{d e:D}
theorem WP.some{z:α}{h:Hd}(q:Q z h):WP (some (z,h)) Q:=⟨z,h,rfl,q⟩
theorem WP.mono{Q':α->Hd->Prop}(h:WP o Q)(k:∀ z h,Q z h->Q' z h):WP o Q':=let ⟨z,x,e,q⟩:=h;⟨z,x,e,k z x q⟩
theorem WP.bind{f:α × Hd->Option (β × Hd)}(h:WP o λ z x=>WP (f (z,x)) R):WP (o.bind f) R:=by
  obtain⟨z,x,e,q⟩:=h
  rw[e];exact q
theorem WP.eq{z:α}{h:Hd}(e:o=Option.some (z,h))(q:Q z h):WP o Q:=⟨z,h,e,q⟩
end
section
variable{ls:Ls}{hd:Hd}{a b:MS}{ma mb mc:ME}{ta tb:MT}{m m1 m2:MA}{n:MG}{ns:MGs}{mi:MI}{d e:D}{i j:Nat}{QS:Fl->Hd->Prop}{QE:D->Hd->Prop}{QT:Bool->Hd->Prop}{QA:List D->Hd->Prop}{QO:Option Int->Hd->Prop}{QI:List D × Gd->Hd->Prop}
noncomputable def E6(b:MS)(Q:Fl->Hd->Prop):Fl->Hd->Prop
  | .nx l,h=>WS b l h Q
  | f,h=>Q f h
theorem AK(h:WS a ls hd (E6 b QS)):WS (AD a b) ls hd QS:=by
  obtain⟨f,x,e,q⟩:=h
  show WP (AD a b ls hd) QS
  rw[Pu,e]
  cases f <;> first|exact q|exact⟨_,_,rfl,q⟩
theorem AE{l:Ls}{h:Hd}(q:WS b l h QS):E6 b QS (.nx l) h:=q
theorem HI{h:Hd}(q:QS (.rt d) h):E6 b QS (.rt d) h:=q
theorem B1(h:QS (.nx ls) hd):WS AV ls hd QS:=⟨_,_,rfl,h⟩
theorem Ar(h:WE ma ls hd λ d x=>QS (.rt d) x):WS (AM ma) ls hd QS:=WP.bind (h.mono λ _ _ q=>WP.some q)
theorem Ak(h:WE ma ls hd λ d x=>QS (.nx (ls.set i (some d))) x):WS (Ac i ma) ls hd QS:=by
  obtain⟨d,x,e,q⟩:=h
  exact⟨_,_,by simp only[KW,e,Option.bind_some,OF,Option.map_some],q⟩
theorem Es(h:WE ma ls hd λ _ x=>QS (.nx ls) x):WS (FA ma) ls hd QS:=WP.bind (h.mono λ _ _ q=>WP.some q)
theorem QQ(h:WT ta ls hd λ c x=>if c=true then WS a ls x QS else WS b ls x QS):WS (Ab ta a b) ls hd QS:=by
  refine WP.bind (h.mono λ c x q=>?_)
  dsimp only
  cases c <;> simpa using q
theorem Al(h:WT ta ls hd λ c x=>(c=true->WS a ls x QS)/\(c=false->WS b ls x QS)):WS (Ab ta a b) ls hd QS:=
  QQ (h.mono λ c x q=>by cases c <;> simp_all)
theorem HC{ix:List Nat}(h:WA m ls hd λ ds x=>ds.length=ix.length/\QS (.nx ((ix.zip ds).foldl (λ l q=>l.set q.1 (some q.2)) ls)) x):WS (FS ix m) ls hd QS:=by
  obtain⟨d,x,e,q,q2⟩:=h
  exact⟨_,_,by simp only[Pv,e,Option.bind_some,q,if_true],q2⟩
noncomputable def WL(n:MG)(b:MS)(g:Gd)(ds:List D)(ls:Ls)(hd:Hd)(Q:Fl->Hd->Prop):Prop:=WP (BQ n b g ds ls hd) Q
theorem DH(h:WI mi ls hd λ p x=>WL n b p.2 p.1 ls x QS):WS (DR mi n b) ls hd QS:=WP.bind (h.mono λ _ _ q=>q)
noncomputable def J6(g:Gd)(P:Ls->Hd->Prop)(Q:Fl->Hd->Prop):Fl->Hd->Prop
  | .nx l,h=>GOk h g/\P l h
  | .ct l,h=>GOk h g/\P l h
  | .bk l,h=>Q (.nx l) h
  | .rt d,h=>Q (.rt d) h
theorem DJ{g:Gd}(P:List D->Ls->Hd->Prop):∀ {ds:List D} {ls:Ls} {hd:Hd},P ds ls hd ->
    (∀ d r ls hd,P (d :: r) ls hd->∃ ls1,n d ls hd=some ls1/\WS b ls1 hd (J6 g (P r) QS))->(∀ ls hd,P [] ls hd->QS (.nx ls) hd)->WL n b g ds ls hd QS
  | [],ls,hd,h,_,z=>⟨_,_,by unfold BQ;rfl,z _ _ h⟩
  | d :: r,ls,hd,h,k,z=>by
    obtain⟨ls1,e1,f,x,e2,q⟩:=k d r ls hd h
    unfold WL
    unfold BQ
    rw[e1,Option.bind_some,e2,Option.bind_some]
    cases f with
    | nx l=>exact(show GOk x g/\P r l x from q).1 |> λ g1=>by dsimp only;rw[if_pos g1];exact DJ P q.2 k z
    | ct l=>exact(show GOk x g/\P r l x from q).1 |> λ g1=>by dsimp only;rw[if_pos g1];exact DJ P q.2 k z
    | bk l=>exact⟨_,_,rfl,q⟩
    | rt l=>exact⟨_,_,rfl,q⟩
theorem A4(h:ls[i]? = some (some d))(q:QE d hd):WE (A0 i) ls hd QE:=⟨d,hd,by rw[Pr,h],q⟩
theorem A9{i:I}(q:QE (.im i) hd):WE (mC i) ls hd QE:=⟨_,_,rfl,q⟩
theorem AA{f:D->D->Hd->Option (D × Hd)}(h:WE ma ls hd λ d x=>WE mb ls x λ e y=>WP (f d e y) QE):WE (mOp f ma mb) ls hd QE:=WP.bind (h.mono λ _ _ q=>WP.bind (q.mono λ _ _ q=>q))
theorem E5(h:WT ta ls hd λ c x=>if c=true then WE ma ls x QE else WE mb ls x QE):WE (mIf ta ma mb) ls hd QE:=by
  refine WP.bind (h.mono λ c x q=>?_)
  dsimp only
  cases c <;> simpa using q
theorem Aw(h:WA m ls hd λ ds x=>Bi ds.length/\QE (BP ds) x):WE (BB m) ls hd QE:=WP.bind (h.mono λ ds x q=>by dsimp only;rw[if_pos q.1];exact WP.some q.2)
theorem Bw(h:WA m ls hd λ ds x=>QE (.mu x.length) (x ++ [.lst ds])):WE (Be m) ls hd QE:=WP.bind (h.mono λ _ _ q=>WP.some q)
theorem HE{g:List D->Option D}(h:WA m ls hd λ ds x=>∃ d,g ds=some d/\QE d x):WE (GM g m) ls hd QE:=by
  obtain⟨ds,x,e,d,e2,q⟩:=h
  exact⟨d,x,by simp only[Q2,e,Option.bind_some,e2,Option.map_some],q⟩
theorem Do(h:WA m ls hd λ ds x=>WE ma ls x λ e y=>∃ i d,e=.im (.int i)/\atI ds i=some d/\QE d y):WE (Eh m ma) ls hd QE:=by
  obtain⟨ds,x,e,d,y,e2,i,z,rfl,e4,q⟩:=h
  exact⟨z,y,by simp only[Px,e,Option.bind_some,e2,e4,Option.map_some],q⟩
theorem Bg{f:List D->Hd->Option (D × Hd)}(h:WA m ls hd λ ds x=>WP (f ds x) QE):WE (mCB f m) ls hd QE:=WP.bind (h.mono λ _ _ q=>q)
theorem Gq{f:D->List D->Hd->Option (D × Hd)}(h:WE ma ls hd λ d x=>(∃ l,B9 x d=some l)/\WA m ls x λ ds y=>WP (f d ds y) QE):WE (mMt f ma m) ls hd QE:=by
  obtain⟨d,x,e,⟨l,hl⟩,q⟩:=h
  unfold WE
  rw[RJ,e,Option.bind_some]
  dsimp only
  rw[hl]
  exact WP.bind (q.mono λ _ _ q=>q)
theorem FK{F:List D->Hd->Option (D × Hd)}(h:WA m ls hd λ ds x=>WF F ds x QE):WE (Ej F m) ls hd QE:=WP.bind (h.mono λ _ _ q=>q)
theorem OS(h:WE ma ls hd λ d x=>∃ i,d=.im (.int i)/\QE (.im (.int (-i))) x):WE (Hv ma) ls hd QE:=by
  obtain⟨d,x,e,i,rfl,q⟩:=h
  exact⟨_,x,by simp only[Pw,e,Option.bind_some],q⟩
theorem AO(h:WE ma ls hd λ d x=>∃ b,d=.im (.bl b)/\QT b x):WT (AJ ma) ls hd QT:=by
  obtain⟨d,x,e,b,rfl,q⟩:=h
  exact⟨b,x,by simp only[OD,e,Option.bind_some],q⟩
theorem OP(h:WE ma ls hd λ d x=>∃ b,Cs x d=some b/\QT b x):WT (GJ ma) ls hd QT:=by
  obtain⟨d,x,e,b,e2,q⟩:=h
  exact⟨b,x,by simp only[Ps,e,Option.bind_some,e2,Option.map_some],q⟩
theorem HB(h:WT ta ls hd λ c x=>QT (!c) x):WT (GK ta) ls hd QT:=WP.bind (h.mono λ _ _ q=>WP.some q)
theorem Jo(h:WT ta ls hd λ c x=>if c=true then WT tb ls x QT else QT false x):WT (GN ta tb) ls hd QT:=by
  refine WP.bind (h.mono λ c x q=>?_)
  dsimp only
  cases c
  . exact WP.some (by simpa using q)
  . simpa using q
theorem Er(h:WT ta ls hd λ c x=>if c=true then QT true x else WT tb ls x QT):WT (mOr ta tb) ls hd QT:=by
  refine WP.bind (h.mono λ c x q=>?_)
  dsimp only
  cases c
  . simpa using q
  . exact WP.some (by simpa using q)
theorem EO(h:QT true hd):WT Ct ls hd QT:=⟨_,_,rfl,h⟩
theorem AB(h:QA [] hd):WA A8 ls hd QA:=⟨_,_,rfl,h⟩
theorem A3(h:WE ma ls hd λ d x=>WA m ls x λ ds y=>QA (d :: ds) y):WA (A2 ma m) ls hd QA:=WP.bind (h.mono λ _ _ q=>WP.bind (q.mono λ _ _ q=>WP.some q))
theorem C6(h:WA m ls hd λ ds x=>Bi ds.length/\QA ds x):WA (CS m) ls hd QA:=WP.bind (h.mono λ ds x q=>by dsimp only;rw[if_pos q.1];exact WP.some q.2)
theorem Mp(h:WE ma ls hd λ d x=>∃ ds,BF x d=some ds/\QA ds x):WA (Fo ma) ls hd QA:=by
  obtain⟨d,x,e,ds,e2,q⟩:=h
  exact⟨ds,x,by simp only[OH,e,Option.bind_some,e2,Option.map_some],q⟩
theorem OR{ml mh:MO1}(h:WE ma ls hd λ d x=>WO ml ls x λ l y=>WO mh ls y λ u z=>∃ ds,Ag d=some ds/\¬ (HT.sIx ds.length 0 l=0/\HT.sIx ds.length ds.length u=ds.length)/\QE (BP (DU ds l u)) z):WE (Ht ma ml mh) ls hd QE:=by
  obtain⟨d,x,e,l,y,e2,u,z,e3,ds,e4,c,q⟩:=h
  exact⟨_,z,by simp only[Pt,e,Option.bind_some,e2,e3,e4];rw[if_pos c],q⟩
theorem QR(h:QO none hd):WO Cb ls hd QO:=⟨_,_,rfl,h⟩
theorem Mn(h:WE ma ls hd λ d x=>∃ i,d=.im (.int i)/\QO (some i) x):WO (EC ma) ls hd QO:=by
  obtain⟨d,x,e,i,rfl,q⟩:=h
  exact⟨_,x,by simp only[OE,e,Option.bind_some],q⟩
theorem J2(h:WA m ls hd λ ds x=>∃ k,ds=[.im (.int k)]/\GB k/\QI (BD 0 k.toNat,[]) x):WI (GL m) ls hd QI:=by
  obtain⟨ds,x,e,k,rfl,c,q⟩:=h
  exact⟨_,x,by simp only[Pz,e,Option.bind_some,c,if_true],q⟩
theorem M8(h:WA m ls hd λ ds x=>∃ j k,ds=[.im (.int j),.im (.int k)]/\L7 j k/\QI (BD j (k - j).toNat,[]) x):WI (Ma m) ls hd QI:=by
  obtain⟨ds,x,e,j,k,rfl,c,q⟩:=h
  exact⟨_,x,by simp only[OI,e,Option.bind_some,c,if_true],q⟩
theorem G8(h:WE ma ls hd λ d x=>∃ ds,Ag d=some ds/\QI (ds,[]) x):WI (DQ ma) ls hd QI:=by
  obtain⟨d,x,e,ds,e2,q⟩:=h
  exact⟨_,x,by simp only[Py,e,Option.bind_some,e2,Option.map_some],q⟩
theorem OQ(h:WA m ls hd λ ds x=>QI (ds,[]) x):WI (Pi m) ls hd QI:=by
  obtain⟨ds,x,e,q⟩:=h
  exact⟨_,x,by simp only[Q1,e,Option.map_some],q⟩
theorem J3(h:WE ma ls hd λ d x=>∃ k ds,d=.mu k/\x[k]? = some (.lst ds)/\QI (ds,[(k,ds)]) x):WI (Df ma) ls hd QI:=by
  obtain⟨d,x,e,k,ds,rfl,e2,q⟩:=h
  exact⟨_,x,by simp only[Q0,e,Option.bind_some,e2],q⟩
theorem Dp{k:Nat}{ix:List Nat}(h:WI mi ls hd λ p x=>Bi p.1.length/\WP (BN n ta ma p.2 p.1 (De k ix ls) x) QA):WA (CG k ix mi n ta ma) ls hd QA:=WP.bind (h.mono λ p x q=>by dsimp only;rw[if_pos q.1];exact q.2)
theorem Bh{i j:Int}(q:QE (.im (.int (i + j))) hd):WP (Am (.im (.int i)) (.im (.int j)) hd) QE:=⟨_,_,by simp,q⟩
theorem Dm{i j:Int}(q:QE (.im (.int (i - j))) hd):WP (CV (.im (.int i)) (.im (.int j)) hd) QE:=⟨_,_,by simp,q⟩
theorem Jq{i j:Int}(c:Cf i j)(q:QE (.im (.int (i * j))) hd):WP (C0 (.im (.int i)) (.im (.int j)) hd) QE:=⟨_,_,by simp[c],q⟩
theorem Gp{i j:Int}(q:QE (.im (.bl (decide (i < j)))) hd):WP (gLt (.im (.int i)) (.im (.int j)) hd) QE:=⟨_,_,by simp,q⟩
theorem M5{i j:Int}(q:QE (.im (.bl (decide (i <= j)))) hd):WP (gLe (.im (.int i)) (.im (.int j)) hd) QE:=⟨_,_,by simp,q⟩
theorem M6{i j:Int}(q:QE (.im (.bl (decide (j < i)))) hd):WP (gGt (.im (.int i)) (.im (.int j)) hd) QE:=⟨_,_,by simp,q⟩
theorem M7{i j:Int}(q:QE (.im (.bl (decide (j <= i)))) hd):WP (gGe (.im (.int i)) (.im (.int j)) hd) QE:=⟨_,_,by simp,q⟩
theorem Dn{i j:Int}(q:QE (.im (.bl (decide (i=j)))) hd):WP (gEq (.im (.int i)) (.im (.int j)) hd) QE:=⟨_,_,by simp,q⟩
theorem Jp{i j:Int}(q:QE (.im (.bl (!decide (i=j)))) hd):WP (gNe (.im (.int i)) (.im (.int j)) hd) QE:=⟨_,_,by simp,q⟩
theorem Ap{i j:Str}(q:QE (.im (.bl (decide (i=j)))) hd):WP (gEq (.im (.str i)) (.im (.str j)) hd) QE:=⟨_,_,by simp,q⟩
theorem DI{i j:Str}(q:QE (.im (.bl (!decide (i=j)))) hd):WP (gNe (.im (.str i)) (.im (.str j)) hd) QE:=⟨_,_,by simp,q⟩
theorem AY{i:Int}{ds:List D}(e1:BF hd d=some ds)(e2:atI ds i=some e)(q:QE e hd):WP (gIx d (.im (.int i)) hd) QE:=⟨_,_,by rw[RK,e1,Option.bind_some,e2];rfl,q⟩
theorem IS{i j:Int}(q:QE (.im (.int (max i j))) hd):WP (Mc [.im (.int i),.im (.int j)] hd) QE:=⟨_,_,rfl,by have:(if j > i then j else i)=max i j:=(by split <;> omega);rw[this];exact q⟩
theorem G7{i j:Int}(q:QE (.im (.int (min i j))) hd):WP (Fz [.im (.int i),.im (.int j)] hd) QE:=⟨_,_,rfl,by have:(if j < i then j else i)=min i j:=(by split <;> omega);rw[this];exact q⟩
theorem J1{tp:Bool}{g:List D->Option D}{ds:List D}{z:D}(e1:(if tp then BF hd d else B9 hd d)=some ds)(e2:g ds=some z)(q:QE z hd):WP (f1 tp g [d] hd) QE:=⟨_,_,by rw[RO,e1,Option.bind_some,e2];rfl,q⟩
theorem Jr{k:Nat}{x:D}{ds:List D}(e1:hd[k]? = some (.lst ds))(c:EH ds.length)(q:QE (.im .non) (hd.set k (.lst (ds ++ [x])))):WP (Cd (.mu k) [x] hd) QE:=⟨_,_,by rw[Q3,e1];simp only[c,if_true],q⟩
theorem G6(h:WE mc ls hd λ p x=>WE ma ls x λ q y=>WE mb ls y λ r z=>∃ w i j ds,q=.mu w/\r=.im (.int i)/\z[w]? = some (.lst ds)/\ixN ds.length i=some j/\QS (.nx ls) (z.set w (.lst (ds.set j p)))):WS (Fp ma mb mc) ls hd QS:=by
  obtain⟨p,x,e1,q,y,e2,r,z,e3,w,i,j,ds,rfl,rfl,e5,c,qq⟩:=h
  exact⟨_,_,by simp only[OG,e1,Option.bind_some,e2,e3,e5,c,Option.map_some],qq⟩
theorem Bu{k n:Nat}{m:MS}{ds:List D}{Q:D->Hd->Prop}(hl:ds.length=k)(h:WS m (ds.map some ++ List.replicate (n - k) none) hd λ f x=>match f with
    | .rt d=>Q d x
    | .nx _=>Q (.im .non) x
    | _=>False):WF (mkF k n m) ds hd Q:=by
  obtain⟨f,x,e,q⟩:=h
  unfold WF mkF
  rw[if_pos hl,e]
  cases f with
  | nx l=>exact⟨_,_,rfl,q⟩
  | rt l=>exact⟨_,_,rfl,q⟩
  | bk l=>exact q.elim
  | ct l=>exact q.elim
theorem BE{F:List D->Hd->Option (D × Hd)}(h:WA m ls hd λ ds x=>BI 0 ds=true/\WF F ds [] λ d _=>∃ i,d=.im i/\QE (.im i) x):WE (AF 0 F m) ls hd QE:=by
  obtain⟨ds,x,e,c,d,y,e2,i,rfl,q⟩:=h
  exact⟨_,_,Gf e c e2,q⟩
end
structure Tap(T:Nat->MO->MO->Prop)(P:List D->Hd->Option (D × Hd)):Prop where
  cl:∀ {k:Nat} {a b:MO},T k a b->clO 2 a=true/\clO 2 b=true
  le:∀ {j k:Nat} {a b:MO},T k a b->j <= k->T j a b
  pick:∀ {k:Nat} {a b:MO} {many:Int},T (k + 1) a b->0 < many->many < 1073741824->∃ r a' b',0 <= r/\r < many/\P [.mu 1,.im (.int many)] [a,b]=some (.im (.int r),[a',b'])/\T k a' b'
section
variable{T:Nat->MO->MO->Prop}{P:List D->Hd->Option (D × Hd)}{a b:MO}{rest:Hd}{ls:Ls}{m:MA}{QE:D->Hd->Prop}{n c:Nat}
theorem Tap.draw(t:Tap T P)(hT:T (n + 1) a b){many:Int}{hd:Hd}(e:m ls hd=some ([.mu 1,.im (.int many)],a :: b :: rest))(h0:0 < many)(h1:many < 1073741824)
    (k:∀ r a' b',T n a' b'->0 <= r->r < many->QE (.im (.int r)) (a' :: b' :: rest)):WE (AF 2 P m) ls hd QE:=by
  obtain⟨r,a',b',p1,p2,e2,hT'⟩:=t.pick hT h0 h1
  refine⟨_,_,II (w:=2) (ds:=[.mu 1,.im (.int many)]) (pre:=[a,b]) (pre':=[a',b']) (rest:=rest) (g:=[]) rfl rfl e (by simp) ?_ ?_ (by simpa using e2),k r a' b' hT' p1 p2⟩
  . simp[t.cl hT]
  . simp[t.cl hT']
end
end L2
namespace L2
open PySem PySem.Spec PyProof.Rows
section
variable{K:PySem.W.Frag}{ρ ρ':List Addr}{H H':Hp}{hd hd':Hd}
noncomputable def Et(w:Nat)(ls:Ls):Ls:=ls.map λ o=>match o with
  | some d=>if clD w d=true then some d else none
  | none=>none
noncomputable def DX(w:Nat):Fl->Option Fl
  | .nx ls=>some (.nx (Et w ls))
  | .bk ls=>some (.bk (Et w ls))
  | .ct ls=>some (.ct (Et w ls))
  | .rt d=>if clD w d=true then some (.rt d)else none
noncomputable def Fj(w:Nat)(m:MS):MS:=λ ls hd=>if hd.length <= w then(m ls hd).bind λ p=>if(p.2.take w).all (clO w)=true then(DX w p.1).map λ f=>(f,p.2.take w)else none else none
theorem RL.trim{ls:Ls}{σ:St}(h:RL K ρ H ls σ)(w:Nat):RL K (ρ.take w) H (Et w ls) σ:=by
  refine⟨by simp[Et,h.len],λ i d e=>?_⟩
  unfold Et at e
  rw[List.getElem?_map]at e
  cases q:ls[i]? with
  | none=>rw[q]at e;cases e
  | some o=>
    rw[q]at e
    cases o with
    | none=>simp at e
    | some z=>
      simp only[Option.map_some,Option.some.injEq]at e
      split at e
      . next c=>
        cases e
        obtain⟨v,e1,e2⟩:=h.ob i _ q
        exact⟨v,e1,e2.take w c⟩
      . cases e
theorem Ext.trim(x:Ext ρ H ρ' H'){w:Nat}(h:ρ.length <= w):Ext ρ H (ρ'.take w) H':=by
  obtain⟨r,rfl,fr⟩:=x.pre
  refine⟨⟨r.take (w - ρ.length),?_,λ b hb=>fr b (List.mem_of_mem_take hb)⟩,x.keep,x.tab⟩
  rw[List.take_append,List.take_of_length_le h]
theorem Mz{t:TS}{m:MS}(w:Nat)(h:RS K t m):RS K t (Fj w m):=by
  intro ρ σ H hd ls E f hd' hR hL hm hQ
  unfold Fj at hm
  split at hm
  . next hw=>
    obtain⟨⟨f1,h1⟩,e1,hm⟩:=Option.bind_eq_some_iff.mp hm
    dsimp only at hm
    split at hm
    . next c=>
      obtain⟨f2,e2,e3⟩:=Option.map_eq_some_iff.mp hm
      cases e3
      refine h ρ σ H hd ls E f1 h1 hR hL e1 λ ρ1 H1 x1 R1=>?_
      have q:=hQ (ρ1.take w) H1 (x1.trim (by rw[hR.len];exact hw)) (R1.take w c)
      cases f1 with
      | nx l=>simp only[DX,Option.some.injEq]at e2;subst e2;exact λ σ' L=>q σ' (L.trim w)
      | bk l=>simp only[DX,Option.some.injEq]at e2;subst e2;exact λ σ' L=>q σ' (L.trim w)
      | ct l=>simp only[DX,Option.some.injEq]at e2;subst e2;exact λ σ' L=>q σ' (L.trim w)
      | rt d=>
        simp only[DX]at e2
        split at e2
        . next c2=>cases e2;exact λ v r=>q v (r.take w c2)
        . cases e2
    . cases hm
  . cases hm
theorem Mk{w:Nat}{m:MS}{ls:Ls}{Q:Fl->Hd->Prop}(hw:hd.length <= w)(h:WS m ls hd λ f x=>(x.take w).all (clO w)=true/\∃ f',DX w f=some f'/\Q f' (x.take w)):WS (Fj w m) ls hd Q:=by
  obtain⟨f,x,e,c,f',e2,q⟩:=h
  exact⟨f',x.take w,by unfold Fj;rw[if_pos hw,e,Option.bind_some];dsimp only;rw[if_pos c,e2];rfl,q⟩
noncomputable def Fi(m:MS):MS:=λ ls hd=>Fj hd.length m ls hd
theorem Ky{t:TS}{m:MS}(h:RS K t m):RS K t (Fi m):=λ ρ σ H hd ls E f hd' hR hL hm hQ=>Mz hd.length h ρ σ H hd ls E f hd' hR hL hm hQ
theorem K5(K:PySem.W.Frag){X:Cx}{st:List Stmt}{t:TS}{m:MS}(h:QSs K X st t m):QSs K X st t (Fi m):=⟨h.p,Ky h.r⟩
theorem Kl{m:MS}{ls:Ls}{Q:Fl->Hd->Prop}(h:WS m ls hd λ f x=>(x.take hd.length).all (clO hd.length)=true/\∃ f',DX hd.length f=some f'/\Q f' (x.take hd.length)):WS (Fi m) ls hd Q:=Mk (Nat.le_refl _) h
noncomputable def Qx:ME:=λ _ hd=>some (.mu hd.length,hd ++ [.dic []])
theorem IT{ls:Ls}{Q:D->Hd->Prop}(q:Q (.mu hd.length) (hd ++ [.dic []])):WE Qx ls hd Q:=⟨_,_,rfl,q⟩
end
mutual
theorem ID{v w:Nat}(h:v <= w):∀ {d:D},clD v d=true->clD w d=true
  | .im i,_=>by simp
  | .mu n,c=>by simp at c ⊢;omega
  | .tm ds,c=>by rw[clD]at c ⊢;exact Ep h c
  | .ro ns,_=>by rw[clD]
theorem Ep{v w:Nat}(h:v <= w):∀ {ds:List D},BI v ds=true->BI w ds=true
  | [],_=>by simp
  | d :: ds,c=>by
    simp only[Kg,Bool.and_eq_true]at c ⊢
    exact⟨ID h c.1,Ep h c.2⟩
end
theorem Gb{v w:Nat}(h:v <= w):∀ {ds:List (Key × D)},Dl v ds=true->Dl w ds=true
  | [],_=>by simp[Dl]
  | d :: ds,c=>by
    simp only[Dl,Bool.and_eq_true]at c ⊢
    exact⟨ID h c.1,Gb h c.2⟩
theorem Lz{v w:Nat}(h:v <= w){o:MO}(c:clO v o=true):clO w o=true:=by
  cases o with
  | lst ds=>exact Ep h c
  | dic ds=>exact Gb h c
section
variable{T:Nat->MO->MO->Prop}{P:List D->Hd->Option (D × Hd)}{a b:MO}{rest:Hd}{ls:Ls}{m:MA}{QE:D->Hd->Prop}
theorem Tap.callX(t:Tap T P){n c:Nat}(hT:T (n + c) a b)(ex:Hd){w:Nat}{F:List D->Hd->Option (D × Hd)}{as:List D}{hd:Hd}{R:I->Prop}(e:m ls hd=some (.mu 1 :: as,a :: b :: (ex ++ rest)))(hw:w=ex.length + 2)(ha:BI w as=true)(hx:ex.all (clO w)=true)
    (hF:∀ a b,T (n + c) a b->WF F (.mu 1 :: as) (a :: b :: ex) λ d x=>∃ i a' b' g,d=.im i/\R i/\T n a' b'/\x=a' :: b' :: (ex ++ g))
    (k:∀ i a' b',T n a' b'->R i->QE (.im i) (a' :: b' :: (ex ++ rest))):WE (AF w F m) ls hd QE:=by
  subst hw
  have hcl:∀ o,clO 2 o=true->clO (ex.length + 2) o=true:=λ o h=>Lz (by omega) h
  obtain⟨d,x,e2,i,a',b',g,rfl,hR,hT',rfl⟩:=hF a b hT
  refine⟨_,_,II (w:=ex.length + 2) (ds:=.mu 1 :: as) (pre:=a :: b :: ex) (pre':=a' :: b' :: ex) (rest:=rest) (g:=g) rfl rfl e (by simp[ha]) ?_ ?_ e2,k i a' b' hT' hR⟩
  . simp[hcl _ (t.cl hT).1,hcl _ (t.cl hT).2];simpa using hx
  . simp[hcl _ (t.cl hT').1,hcl _ (t.cl hT').2];simpa using hx
theorem Tap.call(t:Tap T P){n c:Nat}(hT:T (n + c) a b){F:List D->Hd->Option (D × Hd)}{as:List D}{hd:Hd}{R:I->Prop}(e:m ls hd=some (.mu 1 :: as,a :: b :: rest))(ha:BI 2 as=true)
    (hF:∀ a b,T (n + c) a b->WF F (.mu 1 :: as) [a,b] λ d x=>∃ i a' b' g,d=.im i/\R i/\T n a' b'/\x=a' :: b' :: g)
    (k:∀ i a' b',T n a' b'->R i->QE (.im i) (a' :: b' :: rest)):WE (AF 2 F m) ls hd QE:=
  t.callX hT [] (w:=2) e rfl ha rfl hF k
end
end L2
namespace L2
open PySem PySem.Spec PyProof.Rows
section
variable{ls:Ls}{hd:Hd}{b:MS}{c:MT}{Q:Fl->Hd->Prop}{QE:D->Hd->Prop}
end
end L2
namespace Bd
open PySem L2
@[reducible] noncomputable def m_steps_at:MS:=(AD (Ac 2 (mC (.int 0)))
    (AD (DR (DQ (A0 0)) (E9 2 (Bp (Av 3) (Bp (Av 4) EA)))
      (AD (Ab (AJ (mOp gGt (A0 3) (A0 1)))
      (AM (A0 2))
      AV)
    (Ac 2 (A0 4))))
    (AM (A0 2))))
noncomputable def F_steps_at:List D->Hd->Option (D × Hd):=mkF 2 5 m_steps_at
@[reducible] noncomputable def m_cost_at:MS:=(AD (Ac 2 (mOp gIx (A0 0) (mC (.int 0))))
    (AD (Ab (AJ (mOp gEq (A0 2) (mC (.str "steps"))))
      (AM (AF 0 F_steps_at (A2 (mOp gIx (A0 0) (mC (.int 1))) (A2 (A0 1) A8))))
      AV)
    (AD (Ab (AJ (mOp gEq (A0 2) (mC (.str "ends"))))
      (AM (mOp C0 (mOp gIx (A0 0) (mC (.int 1))) (A0 1)))
      AV)
    (AD (Ac 3 (mOp CV (A0 1) (mOp gIx (A0 0) (mC (.int 1)))))
    (AD (Ab (AJ (mOp gEq (A0 2) (mC (.str "late"))))
      (AM (A0 3))
      AV)
    (AD (Ab (AJ (mOp gLe (A0 3) (mC (.int 0))))
      (AM (mC (.int 0)))
      AV)
    (AD (Ab (AJ (mOp gEq (A0 2) (mC (.str "tardy"))))
      (AM (mOp C0 (mOp gIx (A0 0) (mC (.int 2))) (A0 3)))
      AV)
    (AM (mOp gIx (A0 0) (mC (.int 2)))))))))))
noncomputable def F_cost_at:List D->Hd->Option (D × Hd):=mkF 2 4 m_cost_at
@[reducible] noncomputable def m_tape:MS:=(AM (Fq [((mC (.str "cells")),(Be (Eg (Hu (A0 0) Cb (EC (mC (.int 63))))))),((mC (.str "next")),(mC (.int 0))),((mC (.str "left")),(mC (.int 0))),((mC (.str "turn")),(mC (.int 0)))]))
noncomputable def F_tape:List D->Hd->Option (D × Hd):=mkF 1 1 m_tape
@[reducible] noncomputable def m_pick:MS:=(AD (CT (A0 0) (mC (.str "turn")) (mOp Am (mOp BZ (A0 0) (mC (.str "turn"))) (mC (.int 1))))
    (AD (Ab (AJ (mOp gGt (mOp BZ (A0 0) (mC (.str "left"))) (mC (.int 0))))
      (AD (Ac 2 (mOp C1 (mOp BZ (A0 0) (mC (.str "left"))) (A0 1)))
    (AD (CT (A0 0) (mC (.str "left")) (mOp EG (mOp BZ (A0 0) (mC (.str "left"))) (A0 1)))
    (AM (A0 2))))
      AV)
    (AD (Fm 3 4 5 (A2 (mOp BZ (A0 0) (mC (.str "cells"))) (A2 (mOp BZ (A0 0) (mC (.str "next"))) (A2 (mOp BZ (A0 0) (mC (.str "turn"))) A8))))
    (AD (Ac 6 (mIf (AJ (Dd true (A0 3) (CS A8))) (mOp gIx (A0 3) (mOp C1 (A0 4) (mCB (f1 true EE) (A2 (A0 3) A8)))) (mC (.int 23))))
    (AD (CT (A0 0) (mC (.str "next")) (mOp Am (A0 4) (mC (.int 1))))
    (AD (Ab (GN (AJ (mOp gGe (A0 6) (mOp Lr (mC (.int 10)) (mC (.int 18))))) (AJ (mOp gLt (A0 4) (mCB (f1 true EE) (A2 (A0 3) A8)))))
      (AD (CT (A0 0) (mC (.str "left")) (mOp EG (A0 6) (A0 1)))
    (AM (mOp C1 (A0 6) (A0 1))))
      AV)
    (AD (Ac 7 (mOp C1 (mOp Am (mOp Am (mOp C1 (A0 6) (mC (.int 2147483587))) (mOp C0 (mC (.int 104729)) (A0 5))) (mC (.int 17))) (mC (.int 2147483629))))
    (AD (Ac 7 (mOp C1 (mOp Am (mOp C0 (A0 7) (A0 7)) (mOp C0 (mC (.int 48271)) (A0 5))) (mC (.int 2147483647))))
    (AD (Ac 7 (mOp C1 (mOp Am (mOp Am (mOp C0 (A0 7) (A0 7)) (mOp C0 (mC (.int 7919)) (A0 7))) (A0 5)) (mC (.int 2147483629))))
    (AM (mOp C1 (mOp EG (A0 7) (mC (.int 128))) (A0 1))))))))))))
noncomputable def F_pick:List D->Hd->Option (D × Hd):=mkF 2 8 m_pick
end Bd
namespace Bd
open PySem L2
structure Tp where
  cells:List Int
  nx:Int
  lf:Int
  tn:Int
noncomputable def B0(t:Tp):List (Key × D):=[(.inr "cells",.mu 0),(.inr "next",.im (.int t.nx)),(.inr "left",.im (.int t.lf)),(.inr "turn",.im (.int t.tn))]
noncomputable def tp(t:Tp):Hd:=[.lst (t.cells.map λ i=>.im (.int i)),.dic (B0 t)]
@[simp] theorem Sa(t:Tp):(tp t).length=2:=rfl
@[simp] theorem Tc(t:Tp)(r:Hd):(tp t ++ r)[0]? = some (.lst (t.cells.map λ i=>.im (.int i))):=rfl
@[simp] theorem Ta(t:Tp)(r:Hd):(tp t ++ r)[1]? = some (.dic (B0 t)):=rfl
@[simp] theorem tp0(t:Tp):(tp t)[0]? = some (.lst (t.cells.map λ i=>.im (.int i))):=rfl
@[simp] theorem tp1(t:Tp):(tp t)[1]? = some (.dic (B0 t)):=rfl
@[simp] theorem T7(t t':Tp)(h:t'.cells=t.cells):(tp t).set 1 (.dic (B0 t'))=tp t':=by unfold tp;rw[h];rfl
section
variable(t:Tp)(v:Int)
@[simp] theorem Ri:Bx (B0 t) (.inr "cells")=some (.mu 0):=by simp[Bx,B0]
@[simp] theorem S7:Bx (B0 t) (.inr "next")=some (.im (.int t.nx)):=by simp[Bx,B0,ne1]
@[simp] theorem S8:Bx (B0 t) (.inr "left")=some (.im (.int t.lf)):=by simp[Bx,B0,ne2,ne4]
@[simp] theorem S6:Bx (B0 t) (.inr "turn")=some (.im (.int t.tn)):=by simp[Bx,B0,ne3,ne5,ne6]
@[simp] theorem Rg:CP (B0 t) (.inr "next") (.im (.int v))=B0 { t with nx:=v }:=by simp[CP,B0,ne1,Ro,Rn]
@[simp] theorem Rh:CP (B0 t) (.inr "left") (.im (.int v))=B0 { t with lf:=v }:=by simp[CP,B0,ne2,ne4,Rm]
@[simp] theorem Rf:CP (B0 t) (.inr "turn") (.im (.int v))=B0 { t with tn:=v }:=by simp[CP,B0,ne3,ne5,ne6]
@[simp] theorem Sb:(B0 t).length=4:=rfl
end
theorem DP:∀ ns:List Int,I.pys (ns.map I.int)=ns.map PyData.int
  | []=>by simp[I.pys]
  | n :: ns=>by simp[I.pys,I.py,DP ns]
theorem Cz(ns:List Int):Bb (ns.map λ i=>D.im (.int i))=some (ns.map I.int):=by
  have:(ns.map λ i=>D.im (.int i))=(ns.map I.int).map D.im:=by rw[List.map_map];rfl
  rw[this];exact Kj _
theorem OJ(ns:List Int):PyData.eqv (.list (ns.map PyData.int)) (.list [])=decide (ns=[]):=by
  cases ns <;> simp[PyData.eqv,PyData.eqvAll]
theorem Lm(ns:List Int):(PyData.list (ns.map PyData.int)).canLay0=true:=by simp[PyData.canLay0,FJ]
theorem E1(ns:List Int)(hd:Hd)(neg:Bool):I0 neg (.list (ns.map PyData.int)) (.list []) hd=some (.im (.bl (if neg then !decide (ns=[])else decide (ns=[]))),hd):=by
  unfold I0
  rw[if_pos,OJ]
  refine⟨Lm ns,by simp[PyData.canLay0,PyData.canLayAll0],?_⟩
  have:(PyData.list []).depth <= 1:=by simp[PyData.depth,PyData.depthAll]
  omega
end Bd
namespace Bd
open PySem L2
theorem Cu{x:Int}(m:Int)(h:0 < m):0 <= x % m/\x % m < m:=⟨Int.emod_nonneg _ (by omega),Int.emod_lt_of_pos _ h⟩
noncomputable def EB(cell turn:Int):Int:=(cell % 2147483587 + 104729 * turn + 17) % 2147483629
noncomputable def GI(x turn:Int):Int:=(x * x + 48271 * turn) % 2147483647
noncomputable def Ph(x turn:Int):Int:=(x * x + 7919 * x + turn) % 2147483629
theorem Q9(hd:Hd)(neg:Bool):I0 neg (.list []) (.list []) hd=some (.im (.bl (if neg then false else true)),hd):=by
  have:=E1 [] hd neg
  simpa using this
theorem RR{xs:List Int}(h:xs ≠ [])(n:Int):∃ c,atI (xs.map λ i=>D.im (.int i)) (n % (xs.length:Int))=some (.im (.int c)):=by
  have hl:0 < xs.length:=GO h
  obtain⟨a,b⟩:=Cu (x:=n) (xs.length:Int) (by omega)
  obtain⟨k,hk⟩:=Int.eq_ofNat_of_zero_le a
  have hk':k < xs.length:=by omega
  exact⟨xs[k],S2 hk (by simp[hk'])⟩
theorem mk1(j:Int):Cf 104729 j:=C4 (by decide) (by decide)
theorem mk2(j:Int):Cf 48271 j:=C4 (by decide) (by decide)
theorem mk3(j:Int):Cf 7919 j:=C4 (by decide) (by decide)
theorem mo1:CF 2147483587:=by unfold CF;decide
theorem mo2:CF 2147483629:=by unfold CF;decide
theorem mo3:CF 2147483647:=by unfold CF;decide
theorem di1:HA 128:=by unfold HA;decide
theorem po1:JR 10 18:=by unfold JR;decide
theorem Ng(τ:Tp)(many:Int)(h0:0 < many)(h1:many < 1073741824):∃ r τ',F_pick [.mu 1,.im (.int many)] (tp τ)=some (.im (.int r),tp τ')/\0 <= r/\r < many/\τ'.cells=τ.cells:=by
  have hm:CF many:=h0
  have hv:HA many:=⟨h0,h1⟩
  by_cases hl:τ.lf > 0
  . refine⟨τ.lf % many,{ τ with tn:=τ.tn + 1,lf:=τ.lf / many },?_,(Cu many h0).1,(Cu many h0).2,rfl⟩
    simp[F_pick,mkF,hl,hm,hv]
  . have key:∀ cell:Int,(if τ.cells=[]then cell=23 else atI (τ.cells.map λ i=>D.im (.int i)) (τ.nx % (τ.cells.length:Int))=some (.im (.int cell))) ->
        ∃ r τ',F_pick [.mu 1,.im (.int many)] (tp τ)=some (.im (.int r),tp τ')/\0 <= r/\r < many/\τ'.cells=τ.cells:=by
      intro cell hcell
      have b1:=Cu (x:=cell % 2147483587 + 104729 * (τ.tn + 1) + 17) 2147483629 (by decide)
      have b2:=Cu (x:=EB cell (τ.tn + 1) * EB cell (τ.tn + 1) + 48271 * (τ.tn + 1)) 2147483647 (by decide)
      have c1:∀ j,Cf (EB cell (τ.tn + 1)) j:=λ j=>C4 (by unfold EB;omega) (by unfold EB;omega)
      have c2:∀ j,Cf (GI (EB cell (τ.tn + 1)) (τ.tn + 1)) j:=λ j=>C4 (by unfold GI;omega) (by unfold GI;omega)
      by_cases hb:cell >= 1000000000000000000/\τ.nx < (τ.cells.length:Int)
      . refine⟨cell % many,{ τ with tn:=τ.tn + 1,nx:=τ.nx + 1,lf:=cell / many },?_,(Cu many h0).1,(Cu many h0).2,rfl⟩
        by_cases hc:τ.cells=[]
        . rw[if_pos hc]at hcell;subst hcell;omega
        . rw[if_neg hc]at hcell
          have hl0:0 < τ.cells.length:=GO hc
          have hl0':CF (τ.cells.length:Int):=by unfold CF;omega
          simp[F_pick,mkF,hl,hm,hv,mk1,mk2,mk3,mo1,mo2,mo3,di1,po1,Dd,pyD,Cz,DP,I.pys,E1,hc,hcell,hl0',hb.1,hb.2,EE]
      . refine⟨Ph (GI (EB cell (τ.tn + 1)) (τ.tn + 1)) (τ.tn + 1) / 128 % many,{ τ with tn:=τ.tn + 1,nx:=τ.nx + 1 },?_,(Cu many h0).1,(Cu many h0).2,rfl⟩
        have hb':1000000000000000000 <= cell->¬ τ.nx < (τ.cells.length:Int):=λ a b=>hb ⟨a,b⟩
        unfold EB at c1 c2
        unfold GI at c2
        unfold Ph GI EB
        by_cases hc:τ.cells=[]
        . rw[if_pos hc]at hcell;subst hcell
          simp only[Int.reduceMod]at c1 c2
          simp[F_pick,mkF,hl,hm,hv,mk1,mk2,mk3,mo1,mo2,mo3,di1,po1,Dd,pyD,Cz,DP,I.pys,E1,Q9,hc,EE,c1,c2]
        . rw[if_neg hc]at hcell
          have hl0:0 < τ.cells.length:=GO hc
          have hl0':CF (τ.cells.length:Int):=by unfold CF;omega
          by_cases hd:1000000000000000000 <= cell
          . simp[F_pick,mkF,hl,hm,hv,mk1,mk2,mk3,mo1,mo2,mo3,di1,po1,Dd,pyD,Cz,DP,I.pys,E1,hc,hcell,hl0',EE,c1,c2,hd,hb' hd]
          . simp[F_pick,mkF,hl,hm,hv,mk1,mk2,mk3,mo1,mo2,mo3,di1,po1,Dd,pyD,Cz,DP,I.pys,E1,hc,hcell,hl0',EE,c1,c2,hd]
    by_cases hc:τ.cells=[]
    . exact key 23 (by rw[if_pos hc])
    . obtain⟨c,e⟩:=RR hc τ.nx
      exact key c (by rw[if_neg hc];exact e)
end Bd
namespace Bd
open PySem L2
inductive Cost where
  | late (d:Int)|tardy (d w:Int)|miss (d w:Int)|ends (w:Int)|steps (rows:List (Int × Int))
noncomputable def BW(r:Int × Int):I:=.tup [.int r.1,.int r.2]
noncomputable def AS:Cost->I
  | .late d=>.tup [.str "late",.int d]
  | .tardy d w=>.tup [.str "tardy",.int d,.int w]
  | .miss d w=>.tup [.str "miss",.int d,.int w]
  | .ends w=>.tup [.str "ends",.int w]
  | .steps rows=>.tup [.str "steps",.tup (rows.map BW)]
noncomputable def BT(t:Int):List (Int × Int)->Int->Int
  | [],told=>told
  | (b,a) :: r,told=>if t < b then told else BT t r a
noncomputable def Cost.at:Cost->Int->Int
  | .late d,t=>t - d
  | .tardy d w,t=>if t - d <= 0 then 0 else w * (t - d)
  | .miss d w,t=>if t - d <= 0 then 0 else w
  | .ends w,t=>w * t
  | .steps rows,t=>BT t rows 0
noncomputable def Cost.wok:Cost->Prop
  | .tardy _ w=>0 <= w/\w <= 1000000
  | .miss _ w=>0 <= w/\w <= 1000000
  | .ends w=>0 <= w/\w <= 1000000
  | _=>True
theorem n1:¬ (("late":Str)="steps"):=by decide +kernel
theorem n2:¬ (("tardy":Str)="steps"):=by decide +kernel
theorem n3:¬ (("miss":Str)="steps"):=by decide +kernel
theorem n4:¬ (("ends":Str)="steps"):=by decide +kernel
theorem n5:¬ (("late":Str)="ends"):=by decide +kernel
theorem n6:¬ (("tardy":Str)="ends"):=by decide +kernel
theorem n7:¬ (("miss":Str)="ends"):=by decide +kernel
theorem n8:¬ (("tardy":Str)="late"):=by decide +kernel
theorem n9:¬ (("miss":Str)="late"):=by decide +kernel
theorem n10:¬ (("miss":Str)="tardy"):=by decide +kernel
theorem n11:¬ (("steps":Str)="ends"):=by decide +kernel
theorem Fa(t:Int)(z:D)(hd:Hd):∀ (rows:List (Int × Int)) (told:Int) (x y:Option D),∃ fl x' y',BQ (E9 2 (Bp (Av 3) (Bp (Av 4) EA))) (AD (Ab (AJ (mOp gGt (A0 3) (A0 1))) (AM (A0 2)) AV) (Ac 2 (A0 4))) [] ((rows.map BW).map .im)
      [some z,some (.im (.int t)),some (.im (.int told)),x,y] hd=some (fl,hd)/\(fl=.rt (.im (.int (BT t rows told))) ∨ fl=.nx [some z,some (.im (.int t)),some (.im (.int (BT t rows told))),x',y'])
  | [],told,x,y=>⟨_,x,y,Ll,.inr rfl⟩
  | (b,a) :: rows,told,x,y=>by
    by_cases h:t < b
    . refine⟨_,x,y,Lk (ls1:=[some z,some (.im (.int t)),some (.im (.int told)),some (.im (.int b)),some (.im (.int a))]) (by simp[BW]) (v:=.im (.int told)) (hd2:=hd) ?_,.inl ?_⟩
      . simp[h]
      . simp[BT,h]
    . obtain⟨fl,x',y',e,q⟩:=Fa t z hd rows a (some (.im (.int b))) (some (.im (.int a)))
      refine⟨fl,x',y',?_,?_⟩
      . rw[<- e]
        refine KJ (ls1:=[some z,some (.im (.int t)),some (.im (.int told)),some (.im (.int b)),some (.im (.int a))]) (by simp[BW]) ?_ (Bs _)
        simp[h]
      . simpa [BT,h]using q
theorem IN(rows:List (Int × Int))(t:Int):F_steps_at [.im (.tup (rows.map BW)),.im (.int t)] []=some (.im (.int (BT t rows 0)),[]):=by
  obtain⟨fl,x',y',e,q⟩:=Fa t (.im (.tup (rows.map BW))) [] rows 0 none none
  rcases q with rfl|rfl
  . simp[F_steps_at,mkF]at e ⊢
    simp[e]
  . simp[F_steps_at,mkF]at e ⊢
    simp[e]
theorem G0(c:Cost)(t:Int)(h:c.wok):F_cost_at [.im (AS c),.im (.int t)] []=some (.im (.int (c.at t)),[]):=by
  cases c with
  | late d=>simp[F_cost_at,mkF,AS,n1,n5,Cost.at]
  | tardy d w=>
    have b1:∀ j,Cf w j:=λ j=>C4 (by obtain⟨a,b⟩:=h;omega) (by obtain⟨a,b⟩:=h;omega)
    by_cases q:t - d <= 0
    . simp[F_cost_at,mkF,AS,n2,n6,n8,Cost.at,q]
    . simp[F_cost_at,mkF,AS,n2,n6,n8,Cost.at,q,b1]
  | miss d w=>
    by_cases q:t - d <= 0
    . simp[F_cost_at,mkF,AS,n3,n7,n9,Cost.at,q]
    . simp[F_cost_at,mkF,AS,n3,n7,n9,n10,Cost.at,q]
  | ends w=>
    have b1:∀ j,Cf w j:=λ j=>C4 (by obtain⟨a,b⟩:=h;omega) (by obtain⟨a,b⟩:=h;omega)
    simp[F_cost_at,mkF,AS,n4,Cost.at,b1]
  | steps rows=>
    have:=Gf (m:=A2 (mOp gIx (A0 0) (mC (.int 1))) (A2 (A0 1) A8)) (ls:=[some (.im (AS (.steps rows))),some (.im (.int t)),some (.im (.str "steps")),none]) (hd:=[]) (hd1:=[]) (F:=F_steps_at) (ds:=[.im (.tup (rows.map BW)),.im (.int t)]) (by simp[AS]) (by simp) (IN rows t)
    simp[AS]at this
    simp[F_cost_at,mkF,AS,Cost.at,this]
end Bd
namespace Bd
open PySem L2
@[simp high] theorem TZ(t:Tp)(x:MO)(r:Hd):(tp t ++ (x :: r))[2]? = some x:=rfl
@[simp high] theorem TY(t:Tp)(x y:MO)(r:Hd):(tp t ++ (x :: y :: r))[3]? = some y:=rfl
@[simp high] theorem TX(t:Tp)(x y z:MO)(r:Hd):(tp t ++ (x :: y :: z :: r))[4]? = some z:=rfl
@[simp high] theorem T9(t:Tp)(x y:MO)(r:Hd):(tp t ++ (x :: r)).set 2 y=tp t ++ (y :: r):=rfl
@[simp high] theorem T8(t:Tp)(x y z:MO)(r:Hd):(tp t ++ (x :: y :: r)).set 3 z=tp t ++ (x :: z :: r):=rfl
theorem Gc(w:Nat)(ns:List Int):BI w (ns.map λ i=>D.im (.int i))=true:=by induction ns <;> simp_all [BI,clD]
@[simp] theorem QV(t:Tp):(tp t).all (clO 2)=true:=by simp[tp,clO,Gc,B0,Dl,clD]
structure Drawn(τ:Tp)(many:Int)(r:Int)(τ':Tp):Prop where
  lo:0 <= r
  hi:r < many
  cl:τ'.cells=τ.cells
  eq:F_pick [.mu 1,.im (.int many)] (tp τ)=some (.im (.int r),tp τ')
theorem draw(τ:Tp)(many:Int)(h0:0 < many)(h1:many < 1073741824):∃ r τ',Drawn τ many r τ':=by
  obtain⟨r,τ',e,a,b,c⟩:=Ng τ many h0 h1
  exact⟨r,τ',a,b,c,e⟩
end Bd
namespace Bd
open PySem L2
end Bd
namespace L2
end L2
namespace Bd
open PySem L2
end Bd
namespace L2
open PySem PySem.Spec PyProof.Rows
structure OkP(w dp:Nat)(d:PyData):Prop where
  sh:d.showable=true
  lay:d.canLay0=true
  it:d.intsShort 13=true
  dp:d.depth <= dp
  wt:d.weight <= w
structure OkPs(w dp n:Nat)(ds:List PyData):Prop where
  sh:PyData.showableAll ds=true
  lay:PyData.canLayAll0 ds=true
  it:PyData.intsShortAll 13 ds=true
  dp:PyData.depthAll ds <= dp
  wt:PyData.weightAll ds <= n * (w + 1)
noncomputable def sm(i:Int):Prop:=-1000000000 <= i/\i <= 1000000000
theorem OkP.int{i:Int}(h:sm i):OkP 40 0 (.int i):=by
  have h1:i.natAbs < 10 ^ 10:=by obtain⟨a,b⟩:=h;omega
  have h0:i.natAbs < 2 ^ 38:=by obtain⟨a,b⟩:=h;omega
  have lg:i.natAbs.log2 < 38:=by
    by_cases z:i.natAbs=0
    . rw[z];decide
    . exact(Nat.log2_lt z).mpr h0
  refine⟨?_,by simp[PyData.canLay0],?_,by simp[PyData.depth],?_⟩
  . simp only[PyData.showable];exact decide_eq_true (by omega)
  . simp only[PyData.intsShort,PyData.shown]
    refine decide_eq_true ?_
    have h2:=int_text_length_le10 (a:=i) (k:=10) (by decide) h1
    rw[PySem.ofString_length]
    omega
  . simp only[PyData.weight]
    split <;> omega
theorem OkP.mono{w w' dp dp':Nat}{d:PyData}(h:OkP w dp d)(a:w <= w')(b:dp <= dp'):OkP w' dp' d:=⟨h.sh,h.lay,h.it,Nat.le_trans h.dp b,Nat.le_trans h.wt a⟩
theorem OkPs.nil{w dp:Nat}:OkPs w dp 0 []:=⟨by simp[PyData.showableAll],by simp[PyData.canLayAll0],by simp[PyData.intsShortAll],by simp[PyData.depthAll],by simp[PyData.weightAll]⟩
theorem OkPs.cons{w dp n:Nat}{d:PyData}{ds:List PyData}(h:OkP w dp d)(t:OkPs w dp n ds):OkPs w dp (n + 1) (d :: ds):=by
  refine⟨by simp[PyData.showableAll,h.sh,t.sh],by simp[PyData.canLayAll0,h.lay,t.lay],by simp[PyData.intsShortAll,h.it,t.it],?_,?_⟩
  . simp only[PyData.depthAll];exact Nat.max_le.mpr ⟨h.dp,t.dp⟩
  . simp only[PyData.weightAll]
    have:=h.wt;have:=t.wt
    rw[Nat.add_mul];omega
theorem OkPs.tup{w dp n:Nat}{ds:List PyData}(t:OkPs w dp n ds):OkP (n * (w + 1)) (dp + 1) (.tuple ds):=by
  refine⟨?_,?_,?_,?_,?_⟩
  . rw[PyData.showable];exact t.sh
  . rw[PyData.canLay0];exact t.lay
  . rw[PyData.intsShort];exact t.it
  . rw[PyData.depth];have:=t.dp;omega
  . rw[PyData.weight];exact t.wt
theorem OkP.repr{w dp:Nat}{d:PyData}(h:OkP w dp d)(hd:isDisplay d=true)(h1:dp <= 30)(h2:w <= 2 ^ 20):C9 d:=by
  have hl:d.layable0=true:=by
    unfold PyData.layable0
    rw[h.lay,decide_eq_true (show d.depth <= 64 by have:=h.dp;omega),decide_eq_true (show d.weight <= 2 ^ 20 by have:=h.wt;omega)]
    rfl
  exact⟨h.sh,PyData.hasDict_of_canLay d h.lay,hd,Nat.le_trans h.dp h1,Nat.le_trans (PyProof.Rows.shown_le13 hl h.it) (by decide)⟩
theorem KC{w dp:Nat}:∀ {is:List I},(∀ i ∈ is,OkP w dp i.py)->OkPs w dp is.length (I.pys is)
  | [],_=>by simp only[I.pys];exact OkPs.nil
  | i :: is,h=>by simp only[I.pys,List.length_cons];exact(KC λ j hj=>h j (List.mem_cons_of_mem _ hj)).cons (h i List.mem_cons_self)
theorem C3{w dp:Nat}{is:List I}(h:∀ i ∈ is,OkP w dp i.py):OkP (is.length * (w + 1)) (dp + 1) (I.py (.tup is)):=by
  rw[I.py];exact(KC h).tup
theorem GG{i:Int}(h:sm i):OkP 40 0 (I.py (.int i)):=by rw[I.py];exact .int h
end L2
namespace Bd
open PySem L2
theorem Nu(x:Str)(h:x="late" ∨ x="tardy" ∨ x="miss" ∨ x="ends" ∨ x="steps"):OkP 40 0 (I.py (.str x)):=by
  rw[I.py]
  rcases h with rfl|rfl|rfl|rfl|rfl <;> exact⟨by decide +kernel,by decide +kernel,by decide +kernel,by decide +kernel,by decide +kernel⟩
end Bd
namespace Bd
open PySem L2
theorem Ly(ns:List Int)(lo hi:Option Int):∃ cs:List Int,DU (ns.map λ n=>.im (.int n)) lo hi=cs.map λ n=>.im (.int n):=⟨(ns.drop _).take _,by unfold DU;rw[List.map_take,List.map_drop]⟩
theorem Mr(ns:List Int):∃ τ,F_tape [.ro ns] []=some (.mu 1,tp τ):=by
  obtain⟨cs,e⟩:=Ly ns none (some 63)
  refine⟨⟨cs,0,0,0⟩,?_⟩
  simp[F_tape,mkF,e,Dw,CP,ne1,ne2,ne3,ne4,ne5,ne6,tp,B0]
end Bd
namespace Bd
open PySem L2
end Bd
namespace Bd
open PySem L2
end Bd
namespace Bd
open PySem L2
end Bd
namespace Bd
open PySem L2
noncomputable abbrev Bf(xs:List Int):List D:=xs.map λ x=>D.im (.int x)
theorem g1(hd:Hd)(x y:MO):(hd ++ [x,y])[hd.length + 1]? = some y:=by simp
theorem t0(hd:Hd)(x y z:MO):(hd ++ [x,y]).set hd.length z=hd ++ [z,y]:=by simp
theorem t1(hd:Hd)(x y z:MO):(hd ++ [x,y]).set (hd.length + 1) z=hd ++ [x,z]:=by simp
end Bd
namespace L2
open PySem PySem.Spec PyProof.Rows
section
variable{ls:Ls}{hd:Hd}{QE:D->Hd->Prop}{QI:List D × Gd->Hd->Prop}{ma:ME}{n:MG}{ta:MT}{mi:MI}{m:MA}
theorem HF{α:Type}{g:Gd}{QA:List D->Hd->Prop}(inj:α->D)(f:α->Option D)(L:D->Ls->Prop)(l0:Ls){xs:List α}{hd:Hd}(hg:GOk hd g)
    (k:∀ x ∈ xs,∀ ls,ls=l0 ∨ (∃ d,L d ls)->∃ ls1,n (inj x) ls hd=some ls1/\L (inj x) ls1/\WT ta ls1 hd λ c y=>y=hd/\if c=true then ∃ z,f x=some z/\WE ma ls1 hd λ e y=>y=hd/\e=z else f x=none)
    (q:QA (xs.filterMap f) hd):WP (BN n ta ma g (xs.map inj) l0 hd) QA:=by
  have go:∀ (xs':List α) (ls:Ls),(∀ x ∈ xs',x ∈ xs)->(ls=l0 ∨ ∃ d,L d ls)->BN n ta ma g (xs'.map inj) ls hd=some (xs'.filterMap f,hd):=by
    intro xs'
    induction xs' with
    | nil=>intro ls _ _;unfold BN;rfl
    | cons x r ih=>
      intro ls hs hl
      obtain⟨ls1,e1,L1,c,y,e2,rfl,q⟩:=k x (hs x List.mem_cons_self) ls hl
      have ih:=ih ls1 (λ z hz=>hs z (List.mem_cons_of_mem _ hz)) (.inr ⟨_,L1⟩)
      rw[List.map_cons]
      unfold BN
      rw[e1,Option.bind_some,e2,Option.bind_some]
      cases c with
      | true=>
        rw[if_pos rfl]at q
        obtain⟨z,ez,e,y,e3,rfl,rfl⟩:=q
        rw[if_pos rfl,e3,Option.bind_some]
        dsimp only
        rw[if_pos hg,ih,List.filterMap_cons,ez]
        rfl
      | false=>
        rw[if_neg Bool.false_ne_true]at q
        rw[if_neg Bool.false_ne_true]
        dsimp only
        rw[if_pos hg,ih,List.filterMap_cons,q]
  exact⟨_,_,go xs l0 (λ _ h=>h) (.inl rfl),q⟩
end
end L2
namespace L2
open PySem PySem.Spec PyProof.Rows
section
variable{K:PySem.W.Frag}{ρ ρ':List Addr}{H H':Hp}{hd hd':Hd}
end
section
variable{ls:Ls}{hd:Hd}{ma mb:ME}{m ml:MA}{QE:D->Hd->Prop}{QA:List D->Hd->Prop}
end
end L2
namespace L2
open PySem PySem.Spec PyProof.Rows
section
variable{ls:Ls}{hd:Hd}{ma:ME}{n n2:MG}{c c2:MT}{mi mi2:MI}{QE:D->Hd->Prop}
end
end L2
namespace L2
open PySem PySem.Spec PyProof.Rows
section
variable{X:Cx}{pins:List (Addr × Obj)}{σ:St}{H:Hp}{s:Shared}{A:Around}{E:Value->Shared->Prop}{Q:Value->Shared->Prop}
end
section
variable{K:PySem.W.Frag}{ρ ρ':List Addr}{H H':Hp}{hd hd':Hd}
end
section
variable{ls:Ls}{hd:Hd}{ma mo mi me:ME}{QE:D->Hd->Prop}{QS:Fl->Hd->Prop}
end
end L2
namespace L2
open PySem PySem.Spec PyProof.Rows
section
variable{X:Cx}{a:Expr}{ta:TE}
end
section
variable(K:PySem.W.Frag){X:Cx}{a:Expr}{ta:TE}{ma:ME}{b:Bool}{j:_}{pos pos':Pos}
end
end L2
namespace L2
open PySem PySem.Spec PyProof.Rows
section
variable{X:Cx}
end
section
variable{K:PySem.W.Frag}
end
section
variable{K:PySem.W.Frag}{ρ ρ':List Addr}{H H':Hp}{hd hd':Hd}
end
end L2
namespace HT
open PySem PySem.Spec PyProof.Rows
section
variable{prog:Program}{w:World}{A:Around}{E:Value->Shared->Prop}{s:Shared}
end
end HT
namespace L2
open PySem PySem.Spec PyProof.Rows
section
variable{X:Cx}
end
section
variable{K:PySem.W.Frag}{ρ ρ':List Addr}{H H':Hp}{hd hd':Hd}
end
section
variable{X:Cx}
end
section
variable{X:Cx}
end
end L2
namespace L2
open PySem PySem.Spec PyProof.Rows
section
variable{prog:Program}{w:World}{A:Around}{E:Value->Shared->Prop}{s:Shared}
end
end L2
namespace L2
open PySem PySem.Spec PyProof.Rows
section
variable(K:PySem.W.Frag){X:Cx}
end
section
variable{K:PySem.W.Frag}
end
end L2
namespace L2
end L2
namespace L2
open PySem PySem.Spec PyProof.Rows
section
variable{K:PySem.W.Frag}{ρ ρ':List Addr}{H H':Hp}{hd hd':Hd}
end
section
variable{hd:Hd}{QE:D->Hd->Prop}
end
end L2
namespace L2
open PySem PySem.Spec PyProof.Rows PySem.W
section
variable{prog:Program}{w:World}{A:Around}{E:Value->Shared->Prop}{s:Shared}
end
end L2
namespace L2
open PySem PySem.Spec PyProof.Rows PySem.W
section
variable{X:Cx}{pins:List (Addr × Obj)}{σ:St}{H:Hp}{s:Shared}{a:Addr}
end
end L2
namespace L2
open PySem PySem.Spec PyProof.Rows PySem.W
section
variable{X:Cx}{pins:List (Addr × Obj)}{σ:St}{H:Hp}{s:Shared}
end
end L2
namespace L2
open PySem PySem.Spec PyProof.Rows PySem.W
section
variable{X:Cx}{c P:Addr}{scope:Scope}{fr:List Str}{ix:List Nat}{prm:Str}{params:Arguments}{body e:Expr}{p pos lpos kpos:Pos}{te tb:TE}
end
end L2
namespace L2
open PySem PySem.Spec PyProof.Rows PySem.W
section
variable{K:PySem.W.Frag}{ρ:List Addr}{H:Hp}{hd:Hd}
end
end L2
namespace L2
open PySem PySem.Spec PyProof.Rows PySem.W
end L2
namespace HT
open PySem PyProof.Rows
end HT
namespace L2
open PySem PySem.Spec PyProof.Rows
section
variable{X:Cx}
end
section
variable{K:PySem.W.Frag}
end
end L2
namespace HT
open PySem PyProof.Rows
open PySem.AutoSeq1 (wpAny_loadPart')
section
variable{prog:Program}{w:World}{A:Around}{E:Value->Shared->Prop}{s:Shared}
end
end HT
namespace L2
open PySem PySem.Spec PyProof.Rows
end L2
namespace HS
open PySem PyProof.Rows
open PySem.AutoSeq1 (wpAny_loadPart')
open Sem (wp)
noncomputable abbrev st(t:Tok):List (Str × Value):=[(Str.ofString "start",.int 1 t)]
section
variable{prog:Program}{w:World}{A:Around}{E:Value->Shared->Prop}{s:Shared}
end
end HS
namespace L2
open PySem PySem.Spec PyProof.Rows
section
variable{K:PySem.W.Frag}
end
end L2
namespace HR
open PySem PyProof.Rows
open Sem (wp)
section
variable{prog:Program}{w:World}{A:Around}{E:Value->Shared->Prop}{s:Shared}
end
section
variable{prog:Program}{w:World}{A:Around}{R:Result->Shared->Prop}
end
section
variable{prog:Program}{w:World}{A:Around}{R:Result->Shared->Prop}{s:Shared}
end
section
variable{prog:Program}{w:World}{A:Around}{E:Value->Shared->Prop}{s:Shared}
end
end HR
namespace L2
open PySem PySem.Spec PyProof.Rows
section
variable{K:PySem.W.Frag}
end
end L2
namespace L2
open PySem PySem.Spec PyProof.Rows PySem.W
section
variable{X:Cx}{pins:List (Addr × Obj)}{σ:St}{l f It S:Addr}{src:Hp->List V->Prop}{G:Hp->Prop}{tb:TE}{cap:St}{Q:VK}{E:Value->Shared->Prop}
end
end L2
namespace L2
open PySem PySem.Spec PyProof.Rows PySem.W
section
variable{X:Cx}{c P:Addr}{scope:Scope}{fr:List Str}{ix:List Nat}{prm:Str}{params:Arguments}{body e:Expr}{p pos lpos kpos:Pos}{te tb:TE}
end
end L2
namespace L2
open PySem PySem.Spec PyProof.Rows PySem.W
section
variable{K:PySem.W.Frag}{hd:Hd}
end
end L2
namespace L2
open PySem PySem.Spec PyProof.Rows PySem.W
section
variable{X:Cx}{pins:List (Addr × Obj)}{σ:St}{l f It S:Addr}{src:Hp->List V->Prop}{G:Hp->Prop}{tb:TE}{cap:St}{Q:VK}{E:Value->Shared->Prop}
end
section
variable{X:Cx}{c P:Addr}{scope:Scope}{fr:List Str}{ix:List Nat}{prm:Str}{params:Arguments}{body e:Expr}{p pos lpos kpos:Pos}{te tb:TE}
end
section
variable{K:PySem.W.Frag}{hd:Hd}
end
end L2
namespace L2
open PySem PySem.Spec PyProof.Rows PySem.W
section
variable{K:PySem.W.Frag}{hd:Hd}
end
section
variable{X:Cx}{pins:List (Addr × Obj)}{σ:St}{l f It S:Addr}{src:Hp->List V->Prop}{G:Hp->Prop}{tb:TE}{cap:St}{Q:VK}{E:Value->Shared->Prop}
end
section
variable{X:Cx}{c P:Addr}{scope:Scope}{fr:List Str}{ix:List Nat}{prm:Str}{params:Arguments}{body e:Expr}{p pos lpos kpos:Pos}{te tb:TE}
end
section
variable{K:PySem.W.Frag}{hd:Hd}
end
end L2
namespace L2
open PySem PySem.Spec PyProof.Rows PySem.W
end L2
namespace L2
open PySem PySem.Spec PyProof.Rows
section
variable{X:Cx}{pos p2:Pos}
end
end L2
namespace L2
open PySem PySem.Spec PyProof.Rows
section
variable{K:PySem.W.Frag}
variable{X:Cx}{pos:Pos}
end
end L2
namespace L2
open PySem PySem.Spec PyProof.Rows
section
variable{X:Cx}{e stp:Expr}{te ts:TE}{pos p2:Pos}
end
end L2
namespace L2
open PySem PySem.Spec PyProof.Rows
section
variable{K:PySem.W.Frag}{ρ:List Addr}{H:Hp}
variable{X:Cx}{e stp:Expr}{te ts:TE}{m:MA}{ms:ME}{pos p2:Pos}
end
end L2
namespace L2
open PySem PySem.Spec PyProof.Rows
section
variable{K:PySem.W.Frag}
end
end L2
namespace HT
open PySem PySem.Spec PyProof.Rows
section
variable{prog:Program}{w:World}{A:Around}{E:Value->Shared->Prop}{s:Shared}
end
end HT
namespace L2
open PySem PySem.Spec PyProof.Rows
section
variable{X:Cx}{e stp:Expr}{te ts:TE}{pos p2:Pos}
end
section
variable{K:PySem.W.Frag}{X:Cx}{e stp:Expr}{te ts:TE}{m ms:ME}{pos p2:Pos}
end
end L2
namespace L2
open PySem PySem.Spec PyProof.Rows
section
variable{K:PySem.W.Frag}
end
end L2
namespace L2
open PySem PySem.Spec PyProof.Rows
end L2
namespace L2
open PySem PySem.Spec PyProof.Rows
section
variable{prog:Program}{w:World}{A:Around}{E:Value->Shared->Prop}{R:Result->Shared->Prop}{h:Heap}{g:Array GenState}{d:Drawn}{t:Nat}{os:OsState}
variable{nm q:Str}{C N:Addr}{bs bm:List Value}{hdct:Bool}{sn:List Str}{sub:List Value}{ab:Bool}{col:Option Bool}{dd:Option Addr}{k0 k1 k2 k3 k5:Option Value}
noncomputable abbrev E4(C t:Addr):Obj:={ cls:=.ref C,data:=.fields #[.ref t,.none,.none,.none,.bool false,.none] }
theorem OC{rest:List Value}(hC:h.get? C=some (excClassObj nm q C N bs bm hdct sn sub ab col dd k0 k1 k2 k3 k5 "ValueError.__new__"))(b1:(Value.ref C :: bm).contains (.type "ValueError")=true)
    (b2:(Value.ref C :: bm).contains (.type "AttributeError")=false) (b3:(Value.ref C :: bm).contains (.type "NameError")=false) (hrest:rest.length <= sizeLine)
    (hq:R (.ok (.ret (.ref (h.objs.size + 1)))) ⟨(h.push { cls:=.type "tuple",data:=.seq rest.toArray }).push (E4 C h.objs.size),g,d,t,os⟩) :
    codeAny (model prog w) A (.builtin "ValueError.__new__" ⟨.ref C :: rest,[]⟩) R ⟨h,g,d,t,os⟩:=by
  have F0:=F.excBase_ValueError
  have en:=F0.ends
  refine codeAny_builtinAt F0.entry (PySem.wpAt_bind ?_)
  show PySem.wpAt _ _ _ (stack >>= _) _ _ _
  refine PySem.wpAt_bind (PySem.wpAt_stack λ p0 below0=>PySem.wpAt_of_wpAny ?_)
  wp_walk;refine PySem.wpAt_of_wpAny ?_;rw[F0.owner]
  repeat (first|with_reducible refine wpAny_madeHere_exc F0.canon hC ?_|with_reducible refine wpAny_loadPart_at hC ?_|(with_reducible refine wpAny_isSubtype_exc hC ?_;first|rw[b1]|rw[b2]|rw[b3])|wp_step)
  show R _ _;rw[Heap.size_push];exact hq
theorem Kh{M:Model}{rest:List Value}{Q:Unit->Shared->Prop}(hC:h.get? C=some (excClassObj nm q C N bs bm hdct sn sub ab col dd k0 k1 k2 k3 k5 "ValueError.__new__"))(b1:bm.contains (.type "ValueError")=true)
    (hq:Q () ⟨h,g,d,t,os⟩):wpAny M A (checkBuiltinCall "ValueError.__new__" ⟨.ref C :: rest,[]⟩) Q E ⟨h,g,d,t,os⟩:=
  wpAny_check_new_subU F.excBase_ValueError b1 .base hC hq
theorem Lg{rest:List Value}:Heap.MadeExcOf h ((h.push { cls:=.type "tuple",data:=.seq rest.toArray }).push (E4 C h.objs.size)) (h.objs.size + 1) (.ref C) rest:=by
  refine⟨λ b o e=>Heap.get?_push_of_some _ (Heap.get?_push_of_some _ e),Heap.get?_none_of_le (Nat.le_succ _),h.objs.size,?_,Heap.get?_none_of_le (Nat.le_refl _),Heap.get?_push_of_some _ (Heap.get?_push_at rfl rfl)⟩
  exact Heap.get?_push_at (by rw[Heap.size_push]) rfl
theorem M1{K:PySem.W.Frag}{fI:Addr}{rest:List Value}{Q:Value->Shared->Prop}(X:K.In h)(hC:h.get? C=some (excClassObj nm q C N bs bm hdct sn sub ab col dd k0 k1 k2 k3 k5 "ValueError.__new__"))(b1:bm.contains (.type "ValueError")=true)
    (b2:bm.contains (.type "AttributeError")=false) (b3:bm.contains (.type "NameError")=false) (hi:PySem.W.findIn K (.ref C) "__init__"=some (some (.ref fI))) (hf:PySem.W.typeIn K (.ref fI)=some (.type "function")) (hrest:rest.length <= sizeLine)
    (hq:wpAny (model prog w) (A.under (.builtin "type.__call__" ⟨.ref C :: rest,[]⟩)) (call (.ref fI) (.ref (h.objs.size + 1) :: rest)) (λ r s'=>r=.none/\Q (.ref (h.objs.size + 1)) s') E ⟨(h.push { cls:=.type "tuple",data:=.seq rest.toArray }).push (E4 C h.objs.size),g,d,t,os⟩) :
    wpAny (model prog w) A (call (.ref C) rest) Q E ⟨h,g,d,t,os⟩:=by
  have f1:=tc_lookup
  have f2:=tc_bind (.ref C)
  have hT:(⟨h,g,d,t,os⟩:Shared).TypeIs (.ref C) "type":=⟨_,hC,rfl⟩
  have c1:(Value.ref C :: bm).contains (.type "ValueError")=true:=by rw[List.contains_cons,b1,Bool.or_true]
  have c2:(Value.ref C :: bm).contains (.type "AttributeError")=false:=by rw[List.contains_cons,b2];rfl
  have c3:(Value.ref C :: bm).contains (.type "NameError")=false:=by rw[List.contains_cons,b3];rfl
  have m0:Heap.MadeExcOf h ((h.push { cls:=.type "tuple",data:=.seq rest.toArray }).push (E4 C h.objs.size)) (h.objs.size + 1) (.ref C) rest:=Lg
  have X1:=X.keeps m0.keeps
  have hC1:=m0.keeps _ _ hC
  have e1:((h.push { cls:=.type "tuple",data:=.seq rest.toArray }).push (E4 C h.objs.size)).get? (h.objs.size + 1)=some { cls:=.ref C,data:=.fields #[.ref h.objs.size,.none,.none,.none,.bool false,.none] }:=Heap.get?_push_at (by rw[Heap.size_push]) rfl
  have cc:(Value.ref C :: bm).contains (.ref C)=true:=by simp
  refine wpAny_call (codeAny_of_tree ?_)
  show wpAny _ _ (callAny (.ref C) _) _ _ _
  repeat (any_goals (first|assumption|with_reducible refine wpAny_loadPart_at hC ?_|wp_step))
  refine⟨rfl,codeAny_call_builtin_at (Code.quiet_builtin _ (by decide +kernel)) entry_typeCall (wpAny_check_type_call_sub hC ?_)⟩
  repeat (first|with_reducible refine wpAny_loadPart_at hC ?_|with_reducible refine wpAny_madeBy_exc hC ?_|wp_step)
  refine codeAny_call_builtin_code (Code.quiet_builtin _ F.excBase_ValueError.quiet) (Kh hC b1 (OC hC c1 c2 c3 hrest ?_))
  show wpAny _ _ _ _ _ _
  unfold isInstance
  repeat (first|with_reducible refine wpAny_loadPart_at e1 ?_|(refine wpAny_isSubtype_exc hC1 ?_;rw[cc])|wp_step)
  show wpAny _ _ (typeLookup (.ref C) _) _ _ _
  refine PySem.W.Looks.at (PySem.W.looks_findIn X1 hi) (wpAny_holding (wpAny_bind (PySem.W.Looks.at (PySem.W.bind_fn X1 _ hf) (wpAny_bind (wpAny_mono hq (λ r s' hr=>?_) λ _ _ x=>x)))))
  obtain⟨rfl,z⟩:=hr
  wp_walk
  exact z
end
end L2
namespace L2
open PySem PySem.Spec PyProof.Rows
open Builtin Builtin.ObjectAttr
inductive OverV:List Value->Prop
  | base:OverV [.type "ValueError",.type "Exception",.type "BaseException",.type "object"]
  | own {c:Addr} {l:List Value}:OverV l->OverV (.ref c :: l)
theorem OverV.sa(self:Value){l:List Value}(h:OverV l):refuseLoop self "__setattr__" l=pure ():=by
  induction h with
  | base=>exact PySem.F.store_ValueError.passes self
  | own _ ih=>rw[refuseLoop_ref];exact ih
theorem OverV.has{l:List Value}(h:OverV l){x:String}(e:[Value.type "ValueError",.type "Exception",.type "BaseException",.type "object"].contains (.type x)=true):l.contains (.type x)=true:=by
  induction h with
  | base=>exact e
  | own _ ih=>rw[List.contains_cons,ih,Bool.or_true]
theorem OverV.not{l:List Value}(h:OverV l){x:String}(e:[Value.type "ValueError",.type "Exception",.type "BaseException",.type "object"].contains (.type x)=false):l.contains (.type x)=false:=by
  induction h with
  | base=>exact e
  | own _ ih=>rw[List.contains_cons,ih];rfl
structure XC(K:PySem.W.Frag)(C fI:Addr):Prop where
  at_:∃ nm q N bs bm sn sub ab col dd k0 k1 k2 k3 k5,K.lookup C=some (excClassObj nm q C N bs bm true sn sub ab col dd k0 k1 k2 k3 k5 "ValueError.__new__")/\OverV bm
  init:PySem.W.findIn K (.ref C) "__init__"=some (some (.ref fI))
  fn:PySem.W.isFn K (.ref fI)=true
  kp:PySem.W.keepIn K (.ref C)=true
  sa:PySem.W.findIn K (.ref C) "__setattr__"=some (some (.builtin "object.__setattr__"))
  ga:PySem.W.findIn K (.ref C) "__getattribute__"=some (some (.builtin "BaseException.__getattribute__"))
  gx:PySem.W.findIn K (.ref C) "__getattr__"=some none
section
variable{prog:Program}{w:World}{A:Around}{E:Value->Shared->Prop}{s:Shared}{K:PySem.W.Frag}{C fI x:Addr}{name:Str}{v:Value}
theorem XC.cls(c:XC K C fI):∃ cd,PySem.W.clsIn K C=some cd/\OverV cd.mro/\cd.hasDict=true:=by
  obtain⟨nm,q,N,bs,bm,sn,sub,ab,col,dd,k0,k1,k2,k3,k5,e,o⟩:=c.at_
  exact⟨_,by unfold PySem.W.clsIn;rw[e],.own o,rfl⟩
theorem Mw{sl:Array (Option Value)}{vs:Array Value}{Q:Unit->Shared->Prop}(X:K.In s.heap)(c:XC K C fI)(hx:s.heap.get? x=some ⟨.ref C,none,.fields vs,sl⟩)(na:PySem.W.findIn K (.ref C) name=some none)
    (h:∀ h',h'.get? x=some ⟨.ref C,some s.heap.objs.size,.fields vs,sl⟩->h'.Ns1 s.heap.objs.size (λ y=>if y=name then some v else none)->(∀ b o,b ≠ x->s.heap.get? b=some o->h'.get? b=some o)->Q () { s with heap:=h',toks:=s.toks + 2 }) :
    wpAny (model prog w) A (setAttr (.ref x) name v) Q E s:=by
  have SF:=PySem.F.store_object
  have I:PySem.W.InstAt s.heap x ⟨.ref C,none,.fields vs,sl⟩ C none:=⟨hx,rfl,rfl,True.intro⟩
  obtain⟨cd,hc,ov,hd⟩:=c.cls
  have ne:cd.mro.isEmpty=false:=by cases q:cd.mro with|nil=>rw[q]at ov;cases ov|cons _ _=>rfl
  have sub:PySem.W.Looks (model prog w) s.heap (isInstance (.ref x) (.type "object")) true:=
    I.type.andThen (PySem.W.looks_mroIn X (by unfold PySem.W.mroIn;rw[hc,Option.bind_some,if_neg (by rw[ne];decide),ov.has (by decide +kernel)]))
  have hm:PySem.W.Looks (model prog w) s.heap (mroOf (.ref C)) cd.mro:=(PySem.W.looks_clsIn X hc).andThen .now
  refine PySem.W.set_plain X I c.sa (codeAny_call_builtin SF.slot.plain SF.entry (@PySem.W.check_slot (model prog w) _ _ _ "object.__setattr__" "object" "__setattr__" (.ref x) [.str name s.toks,v] [] _ SF.kind SF.split sub (SF.args (.ref x) (.str name s.toks) v) ?_))
  rw[PySem.W.osa_eq,refuse_eq]
  refine wpAny_bind (wpAny_bind (I.type.here (s:={ s with toks:=s.toks + 1 }) (wpAny_bind (hm.here (s:={ s with toks:=s.toks + 1 }) ?_))))
  rw[ov.sa]
  refine wpAny_pure (wpAny_bind (I.type.here (s:={ s with toks:=s.toks + 1 }) (wpAny_bind ((PySem.W.looks_findIn X na).here (s:={ s with toks:=s.toks + 1 }) (wpAny_bind (wpAny_pure ?_))))))
  have hxs:x ≠ s.heap.objs.size:=Nat.ne_of_lt (Heap.lt_size hx)
  have hx1:(s.heap.push { cls:=.type "dict",data:=.dict #[] }).get? x=some ⟨.ref C,none,.fields vs,sl⟩:=Heap.get?_push_of_some _ hx
  refine wpAny_bind (wpAny_pure (wpAny_bind (wpAny_bind (wpAny_loadPart hx (wpAny_bind (PySem.W.Looks.here (s:={ s with toks:=s.toks + 1 }) (PySem.W.looks_clsIn X hc) ?_))))))
  rw[hd]
  show wpAny _ _ (do let d <- alloc { cls:=.type "dict",data:=.dict #[] };update x λ o=>{ cls:=o.cls,dict:=some d,data:=o.data,slots:=o.slots };dictMade (.ref C) x d) _ _ _
  refine wpAny_bind (wpAny_alloc' (wpAny_bind (wpAny_update' hx1 ?_)))
  generalize hh:((s.heap.push { cls:=.type "dict",data:=.dict #[] }).update x λ o=>{ cls:=o.cls,dict:=some s.heap.objs.size,data:=o.data,slots:=o.slots })=h2
  have g1:h2.get? s.heap.objs.size=some { cls:=.type "dict",data:=.dict #[] }:=by rw[<- hh];exact(Heap.get?_update_ne _ _ _ _ hxs.symm).trans (Heap.get?_push_at rfl rfl)
  have g2:h2.get? x=some ⟨.ref C,some s.heap.objs.size,.fields vs,sl⟩:=by rw[<- hh];exact Heap.get?_update_self _ hx1 rfl
  have g3:∀ b o,b ≠ x->s.heap.get? b=some o->h2.get? b=some o:=λ b o n e=>by rw[<- hh];exact(Heap.get?_update_ne _ _ _ _ n).trans (Heap.get?_push_of_some _ e)
  have hnd:h2.Ns s.heap.objs.size (λ _=>none):=⟨_,#[],_,g1,rfl,λ e he=>absurd he (by simp),λ _=>rfl⟩
  refine wpAny_pure ?_
  show wpAny _ _ (storeInDict s.heap.objs.size (.str name s.toks) name v) _ _ _
  unfold storeInDict newKeyGuard
  refine wpAny_bind (wpAny_pure (wpAny_bind (wpAny_nsSet1 (Heap.Ns1.of_empty hnd) λ h' hn' hs=>?_)))
  obtain⟨oD,esD,epD,hoD,hdD,hcD⟩:=hn'.count (Within.cons name v Within.nil)
  refine wpAny_bind (wpAny_lookBehind hoD (by rw[hdD];exact pastItsLine_dict (Nat.le_trans hcD (by rw[List.length_cons,List.length_nil,sizeLine_eq];omega))) ?_)
  exact wpAny_pure (h h' ((hs.2 x hxs).trans g2) hn' λ b o n e=>(hs.2 b (Nat.ne_of_lt (Heap.lt_size e))).trans (g3 b o n e))
end
end L2
namespace L2
open PySem PySem.Spec PyProof.Rows
open Builtin Builtin.ObjectAttr
section
variable{prog:Program}{w:World}{A:Around}{E:Value->Shared->Prop}{s:Shared}{K:PySem.W.Frag}{C fI x dx:Addr}{name:Str}{v:Value}{mA:Str->Option Value}
theorem OB{sl:Array (Option Value)}{vs:Array Value}{expr:Bool}{Q:Value->Shared->Prop}(X:K.In s.heap)(c:XC K C fI)(hx:s.heap.get? x=some ⟨.ref C,some dx,.fields vs,sl⟩)(hn:s.heap.Ns1 dx mA)(na:PySem.W.findIn K (.ref C) name=some none)(hv:mA name=some v)
    (hh:PySem.W.handedIn v=true) (h:Q v { s with toks:=s.toks + 1 }):wpAny (model prog w) A (getAttr (.ref x) name expr) Q E s:=by
  obtain⟨od,ho,hl⟩:=GZ hn
  obtain⟨hp,g,d,t,os⟩:=s
  have I:PySem.W.InstAt hp x ⟨.ref C,some dx,.fields vs,sl⟩ C (some od):=⟨hx,rfl,rfl,ho⟩
  obtain⟨cd,hc,ov,hd⟩:=c.cls
  have hhd:PySem.W.hasDictIn K C=true:=by unfold PySem.W.hasDictIn;rw[hc];exact hd
  have L0:PySem.W.Looks (model prog w) hp (typeOf (.ref x)) (.ref C):=I.type
  have L1:PySem.W.Looks (model prog w) hp (find (.ref x) (.ref C) name) (.value v):=PySem.W.looks_find X I (PySem.W.findObj_own hhd na rfl (by rw[hl,hv]))
  have L2:PySem.W.Looks (model prog w) hp (typeLookup (.ref C) "__getattribute__") (some (.builtin "BaseException.__getattribute__")):=PySem.W.looks_findIn X c.ga
  have L3:PySem.W.Looks (model prog w) hp (hookBefore (.ref C)) none:=PySem.W.looks_hook X c.gx
  have ne:cd.mro.isEmpty=false:=by cases q:cd.mro with|nil=>rw[q]at ov;cases ov|cons _ _=>rfl
  have sub:PySem.W.Looks (model prog w) hp (isInstance (.ref x) (.type "BaseException")) true:=
    I.type.andThen (PySem.W.looks_mroIn X (by unfold PySem.W.mroIn;rw[hc,Option.bind_some,if_neg (by rw[ne];decide),ov.has (by decide +kernel)]))
  have hx2:(Value.builtin "BaseException.__getattribute__" == Value.builtin "object.__getattribute__")=false:=by decide +kernel
  have hx1:(onTheHeap (Value.ref C) && Value.builtin "BaseException.__getattribute__" == Value.builtin "object.__getattribute__")=false:=by rw[hx2];rfl
  unfold getAttr getAttrBy
  refine wpAny_bind (wpAny_mkText (wpAny_holding (wpAny_bind (L0.at (wpAny_bind (L2.at ?_))))))
  dsimp only
  rw[if_neg (by rw[hx1];exact Bool.false_ne_true)]
  unfold getAttrByItsOwn
  refine wpAny_bind (L3.at (wpAny_bind (wpAny_attempt (wpAny_holding ?_))))
  have hx0:(expr && onTheHeap (Value.builtin "BaseException.__getattribute__"))=false:=by cases expr <;> rfl
  have FB:=F.attrBase_ValueError
  have hk:builtinKind "BaseException.__getattribute__"=some .slot:=by decide +kernel
  have hs:splitId "BaseException.__getattribute__"=some ("BaseException","__getattribute__"):=by decide +kernel
  unfold callGetattribute boundAndCalled
  rw[if_neg (by rw[hx0];exact Bool.false_ne_true),FB.ga.bind]
  refine wpAny_bind (wpAny_pure (wpAny_call (codeAny_call_builtin FB.ga.plain F.entry_bexc_ga (@PySem.W.check_slot (model prog w) _ _ _ "BaseException.__getattribute__" "BaseException" "__getattribute__" (.ref x) [.str name t] [] _ hk hs sub (F.args_bexc_ga _ _) ?_))))
  refine wpAny_bind (wpAny_pure (wpAny_bind (wpAny_pure (wpAny_bind (L0.at (wpAny_bind (L1.at ?_)))))))
  refine wpAny_pure ?_
  show wpAny _ _ (handedOut v) _ _ _
  rw[PySem.W.handedOut_of hh];exact wpAny_pure h
theorem K2{M:Model}{env:Env}{xe:Expr}{pos:Pos}{Q:Flow->Shared->Prop}(hh:A.handled=none)(c:XC K C fI)
    (h:wpAny M A (eval xe env) (λ v s1=>∃ e t dx sl,v=.ref e/\K.In s1.heap/\s1.heap.get? e=some ⟨.ref C,some dx,.fields #[.ref t,.none,.none,.none,.bool false,.none],sl⟩/\E (.ref e) s1) E s) :
    wpAny M A (exec (.Raise (some xe) none pos) env) Q E s:=by
  obtain⟨nm,q,N,bs,bm,sn,sub,ab,col,dd,k0,k1,k2,k3,k5,lk,ov⟩:=c.at_
  have cb:(Value.ref C :: bm).contains (.type "BaseException")=true:=(OverV.own ov).has (by decide +kernel)
  rw[arm_exec_Raise]
  refine wpAny_bind (wpAny_standAt ?_)
  show wpAny _ _ (raiseStmt env (some (do let v <- eval xe env;standAt pos;pure v)) none) _ _ _
  unfold raiseStmt
  refine wpAny_bind (wpAny_bind (wpAny_mono h (λ v s1 h1=>?_) λ _ _ z=>z))
  obtain⟨e,t,dx,sl,rfl,X,he,hE⟩:=h1
  have hC:=X _ _ lk
  refine wpAny_bind (wpAny_standAt (wpAny_pure ?_))
  obtain⟨hp,g,d,tk,os⟩:=s1
  repeat (first|with_reducible refine wpAny_loadPart_at he ?_|with_reducible refine wpAny_loadPart_at hC ?_|(with_reducible refine wpAny_isSubtype_exc hC ?_;rw[cb])|wp_step)
  exact wpAny_raiseNew_none hh hE
end
end L2
namespace L2
open PySem PySem.Spec PyProof.Rows
noncomputable def Exo(h:Heap)(a C dx:Addr)(tb:Value):Prop:=∃ vs sl,h.get? a=some ⟨.ref C,some dx,.fields vs,sl⟩/\vs[1]? = some tb
noncomputable def Trc(h:Heap)(T:Addr):Prop:=∃ oT ts,h.get? T=some oT/\oT.data=.fields ts/\ts[3]? = some Value.none
noncomputable def M2(h:Heap)(a:Addr)(tb:Value):Prop:=tb=.none ∨ ∃ T,tb=.ref T/\T ≠ a/\Trc h T
structure Note(fs:List Addr)(a:Addr)(tb:Value)(h h':Heap):Prop where
  keep:∀ b o,h.get? b=some o->b ≠ a->.ref b ≠ tb->b ∉ fs->h'.get? b=some o
  slot:∀ b o,h.get? b=some o->b ∈ fs->∃ sl,h'.get? b=some { o with slots:=sl }
  there:∀ b o,h.get? b=some o->∃ o',h'.get? b=some o'
section
variable{M:Model}{A:Around}{E:Value->Shared->Prop}{s:Shared}{base:Heap}{env:Env}{outer:List Env}{L a C dx:Addr}{tb:Value}
theorem Hr{Q:Unit->Shared->Prop}(hfr:A.frames=some (env :: outer))(hl:s.heap.FunFrames base (env :: outer))(hf:env.frame=some L)(he:Exo s.heap a C dx tb)(ht:M2 s.heap a tb)
    (h:∀ h' T,s.heap.objs.size <= T->T ≠ a->Exo h' a C dx (.ref T)->Trc h' T->Note (frs (env :: outer)) a tb s.heap h'->Q () { s with heap:=h' }) :
    wpAny M A (noteFrame (.ref a) env) (λ _ s2=>wpAny M A (setFlight (.ref a) none) Q E s2) E s:=by
  obtain⟨vs,sl,ha,h1⟩:=he
  have sz:1 < vs.size:=(Array.getElem?_eq_some_iff.mp h1).1
  have frF:∀ b ∈ frs (env :: outer),∃ o,s.heap.get? b=some o/\∀ vs,o.data ≠ .fields vs:=λ b hb=>(hl.mem hb).2
  have naF:a ∉ frs (env :: outer):=λ hb=>by
    obtain⟨o,e,n⟩:=frF a hb
    rw[ha]at e;cases e;exact n vs rfl
  -- the entry that is made,over a heap h0 that differs from s.heap at the head alone
  have main:∀ (h0:Heap) (hadNext:Bool),h0.objs.size=s.heap.objs.size->h0.get? a=some ⟨.ref C,some dx,.fields vs,sl⟩->(∀ b o,s.heap.get? b=some o->.ref b ≠ tb->h0.get? b=some o)->(∀ b o,s.heap.get? b=some o->∃ o',h0.get? b=some o')->h0.FunFrames base (env :: outer) ->
      wpAny M A (do let f <- frameOf env;let pl <- entryPlaceOf L hadNext;let b <- EntryCells.newEntry tb f .none (rawInt L) .none pl;setField (.ref a) 1 b) (λ _ s2=>wpAny M A (setFlight (.ref a) none) Q E s2) E { s with heap:=h0 }:=by
    intro h0 hadNext hz ha0 k0 t0 hl0
    refine wpAny_bind (wpAny_frameOf_fun (s:={ s with heap:=h0 }) hfr hl0 hf λ h1' hs1=>?_)
    refine wpAny_bind (wpAny_entryPlaceOf λ pl hpl=>?_)
    unfold EntryCells.newEntry newFields
    refine wpAny_bind (wpAny_newObj_type ?_ (hpl.sizeOk5 _ _ _ _ _))
    generalize hob:({ cls:=.type "traceback",dict:=none,data:=.fields ([tb,.ref L,.none,rawInt L,.none] ++ (if pl.isEmpty then List.replicate 6 Value.none else pl)).toArray }:Obj)=ob
    have hobd:ob.data=.fields ([tb,.ref L,.none,rawInt L,.none] ++ (if pl.isEmpty then List.replicate 6 Value.none else pl)).toArray:=by rw[<- hob]
    have z1:h1'.objs.size=s.heap.objs.size:=hs1.1.trans hz
    have ha1:h1'.get? a=some ⟨.ref C,some dx,.fields vs,sl⟩:=(hs1.2.1 a naF).trans ha0
    have ha2:=Heap.get?_push_of_some (h:=h1') ob ha1
    have nT:h1'.objs.size ≠ a:=Nat.ne_of_gt (Heap.lt_size ha1)
    refine wpAny_setField ha2 rfl sz ?_
    have ha3:=Heap.get?_update_self (Obj.mapFields (·.setIfInBounds 1 (Value.ref h1'.objs.size))) ha2 (Obj.isFreed_of_fields (Obj.data_mapFields rfl _))
    have hT3:=(Heap.get?_update_other (h1'.push ob) (Obj.mapFields (·.setIfInBounds 1 (Value.ref h1'.objs.size))) (Ne.symm nT)).trans (Heap.get?_push_size h1' (by rw[<- hob];rfl))
    unfold setFlight
    refine wpAny_bind (wpAny_field ha3 (Obj.data_mapFields rfl _) (x:=.ref h1'.objs.size) (by simp[sz]) ?_)
    rw[if_pos (show(Value.ref h1'.objs.size != Value.none)=true from by simp)]
    have three:3 < ([tb,.ref L,.none,rawInt L,.none] ++ (if pl.isEmpty then List.replicate 6 Value.none else pl)).toArray.size:=by simp only[List.size_toArray,List.length_append,List.length_cons,List.length_nil];omega
    refine wpAny_setField hT3 hobd three (h _ h1'.objs.size (Nat.le_of_eq z1.symm) nT ?_ ?_ ?_)
    . exact⟨_,sl,(Heap.get?_update_other _ _ nT).trans ha3,by simp[sz]⟩
    . exact⟨_,_,Heap.get?_update_self _ hT3 (Obj.isFreed_of_fields (Obj.data_mapFields hobd _)),Obj.data_mapFields hobd _,by simp only[Array.getElem?_setIfInBounds_self,three,if_true];rfl⟩
    . have up:∀ b o,h1'.get? b=some o->b ≠ a->(((h1'.push ob).update a (Obj.mapFields (·.setIfInBounds 1 (Value.ref h1'.objs.size)))).update h1'.objs.size (Obj.mapFields (·.setIfInBounds 3 ((none:Option Addr).elim Value.none λ f=>rawInt f)))).get? b=some o:=λ b o e n=>by
        rw[Heap.get?_update_other _ _ (Nat.ne_of_gt (Heap.lt_size e)),Heap.get?_update_other _ _ (Ne.symm n)]
        exact Heap.get?_push_of_some _ e
      refine⟨λ b o e n1 n2 n3=>up b o ((hs1.2.1 b n3).trans (k0 b o e n2)) n1,λ b o e hb=>?_,λ b o e=>?_⟩
      . obtain⟨o',e',n⟩:=frF b hb
        rw[e]at e';cases e'
        have hbt:.ref b ≠ tb:=by
          rcases ht with rfl|⟨T,rfl,_,oT,ts,eT,dT,_⟩
          . exact λ q=>by cases q
          . intro q;cases q;rw[e]at eT;cases eT;exact n ts dT
        obtain⟨sl',e1⟩:=hs1.2.2 b o (k0 b o e hbt)
        exact⟨sl',up b _ e1 λ q=>naF (q ▸ hb)⟩
      . by_cases q:b=a
        . subst q;exact⟨_,(Heap.get?_update_other _ _ nT).trans ha3⟩
        . obtain⟨o0,e0⟩:=t0 b o e
          obtain⟨sl',e1⟩:=hs1.2.2 b o0 e0
          exact⟨_,up b _ e1 q⟩
  unfold noteFrame
  simp only[hf]
  refine wpAny_bind (wpAny_field ha rfl h1 ?_)
  rcases ht with rfl|⟨T,rfl,nTa,oT,ts,eT,dT,e3⟩
  . rw[if_neg (by decide)]
    exact main s.heap _ rfl ha (λ b o e _=>e) (λ b o e=>⟨o,e⟩) hl
  . rw[if_pos (show(Value.ref T != Value.none)=true from by simp)]
    refine wpAny_bind (wpAny_field eT dT e3 ?_)
    rw[if_neg (show ¬ ((Value.none == rawInt L)=true)from by simp[rawInt])]
    refine wpAny_bind (wpAny_setField eT dT (Array.getElem?_eq_some_iff.mp e3).1 ?_)
    have oth:∀ b,b ≠ T->(s.heap.update T (Obj.mapFields (·.setIfInBounds 3 Value.none))).get? b=s.heap.get? b:=λ b n=>Heap.get?_update_other _ _ (Ne.symm n)
    refine main _ _ (by simp) ((oth a (Ne.symm nTa)).trans ha) (λ b o e n=>(oth b λ q=>n (by rw[q])).trans e) (λ b o e=>?_) (hl.of_keeps λ b o e n=>⟨o,(oth b λ q=>?_).trans e,rfl⟩)
    . by_cases q:b=T
      . subst q;exact⟨_,Heap.get?_update_self _ eT (Obj.isFreed_of_fields (Obj.data_mapFields dT _))⟩
      . exact⟨o,(oth b q).trans e⟩
    . subst q;rw[eT]at e;cases e;exact n ts dT
theorem KK{Q:Unit->Shared->Prop}(hfr:A.frames=some (env :: outer))(hl:s.heap.FunFrames base (env :: outer))(hf:env.frame=some L)(he:Exo s.heap a C dx tb)(ht:M2 s.heap a tb)
    (h:∀ h' T,s.heap.objs.size <= T->T ≠ a->Exo h' a C dx (.ref T)->Trc h' T->Note (frs (env :: outer)) a tb s.heap h'->Q () { s with heap:=h' }):wpAny M A (leaving env (.ref a)) Q E s:=by
  unfold leaving
  exact wpAny_bind (Hr hfr hl hf he ht h)
end
end L2
namespace L2
open PySem PySem.Spec PyProof.Rows
open Builtin Builtin.ObjectAttr
section
variable{prog:Program}{w:World}{A:Around}{E:Value->Shared->Prop}{s:Shared}{K:PySem.W.Frag}{C fI x dx:Addr}{mA:Str->Option Value}
structure XI(K:PySem.W.Frag)(C:Addr):Prop where
  ca:PySem.W.findIn K (.ref C) "__class__"=some (some (.builtin "object.__class__"))
  gd:PySem.W.specialIn K (.builtin "object.__class__") "__get__"=some (some (.builtin "getset_descriptor.__get__"))
  tk:PySem.W.takesIn K (.builtin "object.__class__")=some true
  mo:PySem.W.mroIn K C (.type "object")=some true
theorem Kf{sl:Array (Option Value)}{vs:Array Value}{od:Obj}{Q:Option Value->Shared->Prop}(X:K.In s.heap)(c:XC K C fI)(i:XI K C)(I:PySem.W.InstAt s.heap x ⟨.ref C,some dx,.fields vs,sl⟩ C (some od))
    (h:Q (some (.ref C)) { s with toks:=s.toks + 1 }):wpAny (model prog w) A (getAttr? (.ref x) "__class__") Q E s:=by
  obtain⟨hp,g,d,t,os⟩:=s
  obtain⟨cd,hc,ov,hd⟩:=c.cls
  have L0:PySem.W.Looks (model prog w) hp (typeOf (.ref x)) (.ref C):=I.type
  have L1:PySem.W.Looks (model prog w) hp (find (.ref x) (.ref C) "__class__") (.bind (.builtin "getset_descriptor.__get__") (.builtin "object.__class__")):=
    PySem.W.looks_find X I (PySem.W.findObj_data (by rw[hc];rfl) i.ca i.gd i.tk)
  have L2:PySem.W.Looks (model prog w) hp (typeLookup (.ref C) "__getattribute__") (some (.builtin "BaseException.__getattribute__")):=PySem.W.looks_findIn X c.ga
  have L3:PySem.W.Looks (model prog w) hp (hookBefore (.ref C)) none:=PySem.W.looks_hook X c.gx
  have ne:cd.mro.isEmpty=false:=by cases q:cd.mro with|nil=>rw[q]at ov;cases ov|cons _ _=>rfl
  have sub:PySem.W.Looks (model prog w) hp (isInstance (.ref x) (.type "BaseException")) true:=
    I.type.andThen (PySem.W.looks_mroIn X (by unfold PySem.W.mroIn;rw[hc,Option.bind_some,if_neg (by rw[ne];decide),ov.has (by decide +kernel)]))
  have hx2:(Value.builtin "BaseException.__getattribute__" == Value.builtin "object.__getattribute__")=false:=by decide +kernel
  have hx1:(onTheHeap (Value.ref C) && Value.builtin "BaseException.__getattribute__" == Value.builtin "object.__getattribute__")=false:=by rw[hx2];rfl
  have FB:=F.attrBase_ValueError
  have hk:builtinKind "BaseException.__getattribute__"=some .slot:=by decide +kernel
  have hs:splitId "BaseException.__getattribute__"=some ("BaseException","__getattribute__"):=by decide +kernel
  unfold getAttr? getAttrBy? getAttrBy
  refine wpAny_bind (wpAny_mkText (wpAny_bind (wpAny_attempt (wpAny_holding (wpAny_bind (L0.at (wpAny_bind (L2.at ?_))))))))
  dsimp only
  rw[if_neg (by rw[hx1];exact Bool.false_ne_true)]
  unfold getAttrByItsOwn
  refine wpAny_bind (L3.at (wpAny_bind (wpAny_attempt (wpAny_holding ?_))))
  unfold callGetattribute boundAndCalled
  rw[if_neg (by exact Bool.false_ne_true),FB.ga.bind]
  refine wpAny_bind (wpAny_pure (wpAny_call (codeAny_call_builtin FB.ga.plain F.entry_bexc_ga (@PySem.W.check_slot (model prog w) _ _ _ "BaseException.__getattribute__" "BaseException" "__getattribute__" (.ref x) [.str "__class__" t] [] _ hk hs sub (F.args_bexc_ga _ _) ?_))))
  refine wpAny_bind (wpAny_pure (wpAny_bind (wpAny_pure (wpAny_bind (L0.at (wpAny_bind (L1.at ?_)))))))
  show wpAny _ _ (bindTo _ _ _ _) _ _ _
  unfold bindTo
  refine wpAny_bind (wpAny_holding (wpAny_call (PySem.W.class_get (s:=⟨hp,g,d,t + 1,os⟩) (od:=some od) X I i.mo ?_)))
  refine wpAny_pure ?_
  show wpAny _ _ (handedOut (.ref C)) _ _ _
  rw[PySem.W.handedOut_of rfl]
  exact wpAny_pure (wpAny_pure h)
theorem Hw(c:XC K C fI)(i:XI K C):PySem.W.KitX K (.ref x) (.ref C) (λ h=>∃ dx vs sl od,PySem.W.InstAt h x ⟨.ref C,some dx,.fields vs,sl⟩ C (some od)) where
  ty:=λ _ _ _ ⟨_,_,_,_,I⟩=>I.type
  it:=λ _ _ X _=>by
    obtain⟨nm,q,N,bs,bm,sn,sub,ab,col,dd,k0,k1,k2,k3,k5,lk,ov⟩:=c.at_
    intro A' Q' E' s' k q'
    unfold isType loadHead
    exact wpAny_bind (wpAny_loadPart (k _ _ (X _ _ lk)) (wpAny_pure q'))
  ne:=λ h tp dd its n sl X htp=>by
    obtain⟨nm,q,N,bs,bm,sn,sub,ab,col,dd',k0,k1,k2,k3,k5,lk,ov⟩:=c.at_
    refine Bool.eq_false_iff.mpr λ q'=>?_
    have e:C=tp:=Value.ref.inj (beq_iff_eq.mp q')
    subst e
    have z:=(X _ _ lk).symm.trans htp
    exact absurd (congrArg Obj.data (Option.some.inj z)) (by intro q;cases q)
  ca:=λ X ⟨_,_,_,_,I⟩ k=>Kf X c i I k
end
noncomputable def X0(a C t:Addr)(h:Heap):Prop:=h.get? a=some (E4 C t)
noncomputable def X1(a C dx t:Addr)(h:Heap):Prop:=h.get? a=some ⟨.ref C,some dx,.fields #[.ref t,.none,.none,.none,.bool false,.none],#[]⟩
noncomputable def XO(a C dx:Addr)(h:Heap):Prop:=∃ tb,Exo h a C dx tb
noncomputable def New(X:Cx)(pins:List (Addr × Obj))(b:Addr):Prop:=(b ∈ X.ex ∨ X.s₀.heap.objs.size <= b)/\b ≠ X.env.locals/\(∀ x c,X.env.cells.lookup x=some c->c ≠ b)/\∀ p ∈ X.pn ++ pins,p.1 ≠ b
theorem Inv.new{X:Cx}{pins:List (Addr × Obj)}{σ:St}{H:Hp}{s:Shared}(I:Inv X pins σ H s){b:Addr}(h:s.heap.objs.size <= b):New X pins b:=by
  refine⟨.inr (Nat.le_trans I.sz h),Nat.ne_of_gt (Nat.lt_of_lt_of_le I.lt h),λ x c e=>?_,λ p hp=>?_⟩
  . obtain⟨v,o,ho,_⟩:=I.cell x c e
    exact Nat.ne_of_lt (Nat.lt_of_lt_of_le (Heap.lt_size ho) h)
  . exact Nat.ne_of_lt (Nat.lt_of_lt_of_le (Heap.lt_size (I.pin p hp).1) h)
section
variable(C:Addr)(f:Str)
noncomputable def XEP(X:Cx)(pins:List (Addr × Obj))(Q:VK)(e:Value)(s':Shared):Prop:=∃ a dx tb v σ' H',e=.ref a/\Inv X pins σ' H' s'/\Exo s'.heap a C dx tb/\M2 s'.heap a tb/\H' a=some (.ext (XO a C dx)) /\
  (∀ T,tb=.ref T->H' T=none/\New X pins T)/\H' dx=some (.xd [(f,v)])/\Q v H'
noncomputable def CXN(P:Program)(w:World):CXT:=λ outer H s E e s'=>∃ a dx T H',e=.ref a/\s'.os=s.os/\AllBare s'.gens/\Un (frs outer) [] H H' s.heap s'.heap/\HOk P w H' s'.heap/\Exo s'.heap a C dx (.ref T)/\T ≠ a/\Trc s'.heap T /\
  H' T=none/\s.heap.objs.size <= T/\H' a=some (.ext (XO a C dx))/\E (.ref C) (some dx) H'
end
section
variable{C:Addr}{f:Str}{X:Cx}{pins:List (Addr × Obj)}{σ:St}{H:Hp}{s s':Shared}{Q:VK}{e:Value}
theorem Hq{P:Program}{w:World}{fs:List Addr}{a dx T:Addr}{tb:Value}{h h':Heap}(hok:HOk P w H h)(N:Note fs a tb h h')(hx:Exo h' a C dx (.ref T))(ha:H a=some (.ext (XO a C dx)))(hT:∀ T,tb=.ref T->H T=none)(hf:∀ b ∈ fs,H b=none):HOk P w H h':=by
  have k:∀ b o u,H b=some o->b ≠ a->h.get? b=some u->h'.get? b=some u:=λ b o u q n e=>N.keep b u e n (λ z=>by rw[hT b z.symm]at q;cases q) λ z=>by rw[hf b z]at q;cases q
  intro b o q
  by_cases n:b=a
  . subst n
    rw[ha]at q;cases q
    obtain⟨vs,sl,e1,e2⟩:=id hx
    refine⟨⟨_,hx⟩,⟨_,e1⟩,λ h1 h2 ⟨tb,vs,sl,e,z⟩ k=>⟨tb,vs,sl,k _ e,z⟩⟩
  . refine(hok b o q).stay (λ c u hc e=>?_) (λ _ z=>z) λ _ _ z=>z
    rcases hc with rfl|hc
    . exact k c o u q n e
    . exact k c _ u hc (λ z=>by subst z;rw[ha]at hc;cases hc) e
theorem Kk{P:Program}{w:World}{K:PySem.W.Frag}{mg:Str->Option Value}{base:Heap}{N:List Str}{qual:Str}{scope:Scope}{fa:Addr}{cd:Value}{A:Around}{outer:List Env}{E:XK}{CX:CXT}{M:Model}{E':Value->Shared->Prop}
    (h:XEP C f (DT CX P w K mg base N qual scope fa cd A outer s H E).nox pins Q e s') (hq:∀ v dx H',Q v H'->H' dx=some (.xd [(f,v)])->E (.ref C) (some dx) H') :
    wpAny M (A.deeper (envOfC qual scope s.heap.objs.size fa cd)) (leaving (envOfC qual scope s.heap.objs.size fa cd) e) (λ _ s''=>CXN C P w outer H s E e s'') E' s':=by
  obtain⟨a,dx,tb,v,σ',H',rfl,I,ex,ht,ha,hT,hd,q⟩:=h
  have fr:=I.ok.frames
  refine KK (base:=base) (L:=s.heap.objs.size) fr I.stack rfl ex ht λ h' T z nT ex' tr Nt=>?_
  have hfs:∀ b ∈ frs (envOfC qual scope s.heap.objs.size fa cd :: outer),H' b=none:=I.stkFree
  have hok':=Hq I.hok Nt ex' ha (λ T e=>(hT T e).1) hfs
  have nx:∀ b,b ∉ (DT CX P w K mg base N qual scope fa cd A outer s H E).nox.ex:=λ b z=>absurd (show b ∈ ([]:List Addr)from z) (by simp)
  have u:=I.base
  have out:∀ b o,s.heap.get? b=some o->H b=none->b ≠ a/\.ref b ≠ tb/\b ≠ s.heap.objs.size:=λ b o e n=>by
    have n':H' b=none:=u.free b o e n (nx b)
    refine⟨(λ z=>by subst z;rw[ha]at n';cases n'),λ z=>?_,Nat.ne_of_lt (Heap.lt_size e)⟩
    rcases(hT b z.symm).2.1 with y|y
    . exact absurd y (nx b)
    . exact absurd (Nat.lt_of_lt_of_le (Heap.lt_size e) y) (Nat.lt_irrefl _)
  have inF:∀ b,b ∈ frs (envOfC qual scope s.heap.objs.size fa cd :: outer)->b=s.heap.objs.size ∨ b ∈ frs outer:=λ b hb=>by
    have:frs (envOfC qual scope s.heap.objs.size fa cd :: outer)=s.heap.objs.size :: frs outer:=rfl
    rw[this]at hb;exact List.mem_cons.mp hb
  refine⟨a,dx,T,H',rfl,I.os,I.bare,⟨λ b o e n nf _=>?_,λ b o e n hf _=>?_,λ b o e n _=>u.free b o e n (nx b),λ b o e _=>?_,u.tups,u.frzs,u.tbls⟩,hok',ex',nT,tr,I.hok.fresh z,Nat.le_trans I.sz z,ha,hq v dx H' q hd⟩
  . obtain⟨n1,n2,n3⟩:=out b o e n
    exact Nt.keep b o (u.keep b o e n nf (nx b)) n1 n2 λ hb=>(inF b hb).elim n3 nf
  . obtain⟨sl,e1⟩:=u.slot b o e n hf (nx b)
    obtain⟨sl',e2⟩:=Nt.slot b _ e1 (by
      show b ∈ s.heap.objs.size :: frs outer
      exact List.mem_cons_of_mem _ hf)
    exact⟨sl',e2⟩
  . obtain⟨o',e1⟩:=u.there b o e (nx b)
    exact Nt.there b o' e1
theorem Jn{E:XK}(I:Inv X pins σ H s)(h:CXN C X.prog X.w X.stack H s E e s')(hq:∀ dx H',E (.ref C) (some dx) H'->∃ v,H' dx=some (.xd [(f,v)])/\Q v H'):XEP C f X pins Q e s':=by
  obtain⟨a,dx,T,H',rfl,os,bare,un,hok,ex,nT,tr,hT,z,ha,q⟩:=h
  obtain⟨v,hd,q'⟩:=hq dx H' q
  exact⟨a,dx,.ref T,v,σ,H',rfl,I.call' (ch:=[]) os un hok bare (λ b z=>absurd z (by simp)),ex,.inr ⟨T,rfl,nT,tr⟩,ha,λ T' e=>by cases e;exact⟨hT,I.new z⟩,hd,q'⟩
end
end L2
namespace L2
open PySem PySem.Spec PyProof.Rows
section
variable{X:Cx}{C fI:Addr}{f:Str}{pos pos':Pos}{value o e:Expr}{ta tv te:TE}
noncomputable def Qb(K:PySem.W.Frag)(ta tv:TE)(f:Str):TS:=λ D σ H=>tv σ H λ y H1=>ta σ H1 λ x H2=>∃ a C t fI,x=.ref a/\H2 a=some (.ext (X0 a C t))/\XC K C fI/\Cq K C f /\
  ∀ dx,H2 dx=none->dx ≠ a->D.nx σ (upd (upd H2 dx (.xd [(f,y)])) a (.ext (X1 a C dx t)))
theorem KU{P:Program}{w:World}{H:Hp}{h:Heap}{a:Addr}{o:Obj}(e:h.get? a=some o):ObjOk P w H h a (.ext λ h=>h.get? a=some o):=⟨e,⟨_,e⟩,λ _ _ x k=>k _ x⟩
theorem NX(ha:PE X o ta)(hv:PE X value tv)(hs:swapsWith value (some (.Attribute o f pos')) pos.line X.env=pure false):PS X (.Assign [.Attribute o f pos'] value pos) (Qb X.K ta tv f):=by
  intro pins s σ H D I h
  refine plainObj_wpAny_Assign_Attribute (thn (hv pins s σ H _ I h) λ uv s1 ⟨y,H1,I1,ry,q⟩=>thn (ha pins s1 σ H1 _ I1 q) λ ov s2 ⟨x,H2,I2,rx,a,C,t,fI,ex,ea,c,n,q2⟩=>?_) hs
  subst ex
  obtain rfl:ov=Value.ref a:=rx
  obtain⟨x0,_⟩:=(show ObjOk X.prog X.w H2 s2.heap a (.ext (X0 a C t))from I2.hok a _ ea)
  have hx:s2.heap.get? a=some ⟨.ref C,none,.fields #[.ref t,.none,.none,.none,.bool false,.none],#[]⟩:=x0
  refine Mw I2.kIn c hx n λ h' e1 e2 k=>⟨σ,_,?_,q2 s2.heap.objs.size (I2.hok.fresh (Nat.le_refl _)) (Nat.ne_of_gt (Heap.lt_size hx))⟩
  have nd:H2 s2.heap.objs.size=none:=I2.hok.fresh (Nat.le_refl _)
  have nda:s2.heap.objs.size ≠ a:=Nat.ne_of_gt (Heap.lt_size hx)
  have old:∀ b u,H2 b=some u->b ≠ a->(upd (upd H2 s2.heap.objs.size (.xd [(f,y)])) a (.ext (X1 a C s2.heap.objs.size t))) b=some u:=λ b u q n=>by
    rw[AI n,AI (Aa q nd)];exact q
  have non:∀ b o,s2.heap.get? b=some o->H2 b=none->(upd (upd H2 s2.heap.objs.size (.xd [(f,y)])) a (.ext (X1 a C s2.heap.objs.size t))) b=none/\b ≠ a:=λ b o q n=>by
    have n1:b ≠ a:=λ z=>by rw[z,ea]at n;cases n
    exact⟨by rw[AI n1,AI (Nat.ne_of_lt (Heap.lt_size q))];exact n,n1⟩
  refine I2.un ⟨λ b o q n _ _=>k b o (non b o q n).2 q,λ b o q n _ _=>⟨o.slots,k b o (non b o q n).2 q⟩,λ b o q n _=>(non b o q n).1,λ b o q _=>?_,λ b xs q=>old b _ q (λ z=>by rw[z,ea]at q;cases q),λ b o u q=>old b _ q (λ z=>by rw[z,ea]at q;cases q),
    λ b ps q=>⟨#[],by rw[old b _ q (λ z=>by rw[z,ea]at q;cases q)];simp⟩⟩ λ b u q=>?_
  . by_cases z:b=a
    . subst z;exact⟨_,e1⟩
    . exact⟨o,k b o z q⟩
  . by_cases z:b=a
    . subst z
      rw[AQ]at q;cases q
      exact KU e1
    . rw[AI z]at q
      by_cases z':b=s2.heap.objs.size
      . subst z'
        rw[AQ]at q;cases q
        refine⟨_,e2,λ g=>?_⟩
        show RelO (List.lookup g [(f,y)]) (if g=f then some uv else none)
        by_cases gz:g=f
        . subst gz;rw[if_pos rfl,List.lookup_cons_self];exact ry
        . have g':(g == f)=false:=by simpa using gz
          rw[if_neg gz];unfold List.lookup;rw[g'];exact True.intro
      . rw[AI z']at q
        refine(I2.hok b u q).stay (λ c v hc r=>k c v ?_ r) (λ c r=>old c _ r ?_) λ c xs r=>old c _ r ?_
        . rcases hc with rfl|hc
          . exact z
          . intro zz;rw[zz,ea]at hc;cases hc
        . intro zz;rw[zz,ea]at r;cases r
        . intro zz;rw[zz,ea]at r;cases r
noncomputable def spI(C:Addr)(f:Str):Sp:=λ vs H Q _=>∃ a v t,vs=[.ref a,v]/\H a=some (.ext (X0 a C t))/\∀ dx,H dx=none->dx ≠ a->Q .non (upd (upd H dx (.xd [(f,v)])) a (.ext (X1 a C dx t)))
end
theorem Nv{P:Program}{w:World}{K:PySem.W.Frag}{mg:Str->Option Value}{base:Heap}{qual:Str}{st:Stmt}{C fI fa:Addr}{fd:FuncData}{f:Str}{p1 p2 p3 p4:Pos}{pw:Str}(F:Fun K "__init__" qual st fa fd)(S:FnScope ["self",pw] ["self",pw] (AC st))
    (hb:Af st=[.Assign [.Attribute (.Name "self" p1) f p2] (.Name pw p3) p4]) (c:XC K C fI) (n:Cq K C f) (hs:∀ cdv A outer s H E,swapsWith (.Name pw p3) (some (.Attribute (.Name "self" p1) f p2)) p4.line (DT CX0 P w K mg base ["self",pw] qual (AC st) fa cdv A outer s H E).env=pure false)
    (v0:Vis (AC st) "self") (v1:Vis (AC st) pw) (d1:(pw == ("__debug__":Str))=false) (d2:(pw == ("__classdict__":Str))=false):FnOk P w K mg base CX0 1 fa fd ["self",pw] (spI C f):=by
  refine F.ok (N:=["self",pw]) S (λ vs H Q E h=>?_) λ cdv A outer s H vs Q E hr hsp=>?_
  . obtain⟨a,v,t,rfl,_⟩:=h;rfl
  . rw[hb]
    refine⟨_,Ez (NX (Dv (i:=0) rfl v0 (by decide) (by decide)) (Dv (i:=1) rfl v1 d1 d2) (hs cdv A outer s H E)),?_⟩
    obtain⟨a,v,t,rfl,ha,q⟩:=hsp
    exact⟨v,rfl,.ref a,rfl,a,C,t,fI,rfl,ha,c,n,q⟩
end L2
namespace L2
open PySem PySem.Spec PyProof.Rows
section
variable(C:Addr)(f:Str)
noncomputable def Ends.non(D:Ends):Ends:={ D with rt:=λ _ _=>False }
noncomputable def PX(X:Cx)(st:Stmt)(t:TS):Prop:=
  ∀ (pins:List (Addr × Obj)) (s:Shared) (σ:St) (H:Hp) (D:Ends),Inv X pins σ H s->t D σ H->wpAny (model X.prog X.w) X.A (exec st X.env) (SP X pins D.non) (XEP C f X pins D.rt) s
noncomputable def PXs(X:Cx)(st:List Stmt)(t:TS):Prop:=
  ∀ (pins:List (Addr × Obj)) (s:Shared) (σ:St) (H:Hp) (D:Ends),Inv X pins σ H s->t D σ H->wpAny (model X.prog X.w) X.A (execs st X.env) (SP X pins D.non) (XEP C f X pins D.rt) s
noncomputable def PXE(X:Cx)(e:Expr)(t:TE):Prop:=
  ∀ (pins:List (Addr × Obj)) (s:Shared) (σ:St) (H:Hp) (Q:VK),Inv X pins σ H s->t σ H Q->wpAny (model X.prog X.w) X.A (eval e X.env) (λ _ _=>False) (XEP C f X pins Q) s
noncomputable def PXA(X:Cx)(es:List Expr)(t:TE):Prop:=
  ∀ (pos:Pos) (pins:List (Addr × Obj)) (s:Shared) (σ:St) (H:Hp) (Q:VK),Inv X pins σ H s->t σ H Q->wpAny (model X.prog X.w) X.A (spliced (backTo pos (starEach es X.env))) (λ _ _=>False) (XEP C f X pins Q) s
end
section
variable{C fI:Addr}{f:Str}{X:Cx}{st:Stmt}{rest:List Stmt}{t u:TS}{e:Expr}{es:List Expr}{te tb:TE}{pos:Pos}
theorem thx{α:Type}{M:Model}{A:Around}{m:Sem α}{P Q:α->Shared->Prop}{E E':Value->Shared->Prop}{s:Shared}(h:wpAny M A m P E s)(k:∀ v s,P v s->Q v s)(j:∀ e s,E e s->E' e s):wpAny M A m Q E' s:=wpAny_mono h k j
noncomputable def HL(t:TS):TS:=λ D σ H=>t D.non σ H
theorem Ih(h:PS X.nox st t):PX C f X st (HL t):=λ pins s σ H D I q=>thx (h pins s σ H D.non (I.wish _) q) (λ _ _ z=>z.unwish) λ _ _ z=>z.elim
theorem LP(h:PSs X.nox rest t):PXs C f X rest (HL t):=λ pins s σ H D I q=>thx (h pins s σ H D.non (I.wish _) q) (λ _ _ z=>z.unwish) λ _ _ z=>z.elim
theorem LQ(h1:PX C f X st t)(h2:PXs C f X rest u):PXs C f X (st :: rest) (HK t u):=by
  intro pins s σ H D I h
  refine wpAny_execs_cons (thx (h1 pins s σ H { D with nx:=u D } I h) (λ fl s1 q=>?_) λ _ _ z=>z)
  cases fl with
  | next=>
    obtain⟨σ',H',I',q⟩:=q
    exact h2 pins s1 σ' H' D I' q
  | ret v=>exact q
  | brk=>exact q
  | cont=>exact q
theorem NU(h1:PX C f X st t):PXs C f X [st] t:=by
  intro pins s σ H D I h
  refine wpAny_execs_cons (thx (h1 pins s σ H D I h) (λ fl s1 q=>?_) λ _ _ z=>z)
  cases fl with
  | next=>exact wpAny_execs_nil q
  | ret v=>exact q
  | brk=>exact q
  | cont=>exact q
theorem Qk{c:Expr}{a b:List Stmt}{tc:TT}(hc:PT X.nox c tc)(ha:PXs C f X a t)(hb:PXs C f X b u):PX C f X (.If c a b pos) (HM tc t u):=by
  intro pins s σ H D I h
  refine wpAny_If (thx (hc pins s σ H _ (I.wish _) h) (λ d s1 ⟨H1,I1,q1⟩=>?_) λ _ _ z=>z.elim)
  cases d with
  | true=>exact ha pins s1 σ H1 D I1.unwish q1
  | false=>exact hb pins s1 σ H1 D I1.unwish q1
theorem P9(he:PXE C f X e te):PX C f X (.Return (some e) pos) (FL te):=λ pins s σ H D I h=>
  wpAny_Return_some (thx (he pins s σ H _ I h) (λ _ _ z=>z.elim) λ _ _ z=>z)
theorem P8{x:Str}{pos':Pos}(he:PXE C f X e te)(hs:swapsWith e (some (.Name x pos')) pos.line X.env=pure false:=by rfl):PX C f X (.Assign [.Name x pos'] e pos) (FL te):=λ pins s σ H D I h=>
  wpAny_Assign_Name (thx (he pins s σ H _ I h) (λ _ _ z=>z.elim) λ _ _ z=>z) hs
theorem NW{c a b:Expr}{tc:TT}(hc:PT X.nox c tc)(ha:PXE C f X a te)(hb:PXE C f X b tb):PXE C f X (.IfExp c a b pos) (tIf tc te tb):=by
  intro pins s σ H Q I h
  refine wpAny_IfExp (thx (hc pins s σ H _ (I.wish _) h) (λ d s1 ⟨H1,I1,q1⟩=>?_) λ _ _ z=>z.elim)
  cases d with
  | true=>exact ha pins s1 σ H1 Q I1.unwish q1
  | false=>exact hb pins s1 σ H1 Q I1.unwish q1
theorem LS(he:PXE C f X e te)(hs:starEach (e :: es) X.env=(false,eval e X.env) :: starEach es X.env:=by rfl):PXA C f X (e :: es) te:=by
  intro pos pins s σ H Q I h
  rw[hs]
  show wpAny _ _ (spliced ((false,eval e X.env) :: backTo pos (starEach es X.env))) _ _ s
  exact Calls.spliced_cons (thx (he pins s σ H _ I h) (λ _ _ z=>z.elim) λ _ _ z=>z)
noncomputable def J9(ta te:TE):TE:=λ σ H Q=>ta σ H λ _ H1=>te σ H1 Q
theorem K7(ha:PE X.nox e tb)(hr:PXA C f X es te)(hs:starEach (e :: es) X.env=(false,eval e X.env) :: starEach es X.env:=by rfl):PXA C f X (e :: es) (J9 tb te):=by
  intro pos pins s σ H Q I h
  rw[hs]
  show wpAny _ _ (spliced ((false,eval e X.env) :: backTo pos (starEach es X.env))) _ _ s
  refine Calls.spliced_cons (thx (ha pins s σ H _ (I.wish _) h) (λ u s1 ⟨x,H1,I1,r1,q1⟩=>?_) λ _ _ z=>z.elim)
  exact thx (hr pos pins s1 σ H1 Q I1.unwish q1) (λ _ _ z=>z.elim) λ _ _ z=>z
theorem NV{x1}(h:PXA C f X es te):PXE C f X (.Tuple es x1 pos) te:=λ pins s σ H Q I hq=>
  wpAny_Tuple_spliced (thx (h pos pins s σ H Q I hq) (λ _ _ z=>z.elim) λ _ _ z=>z)
noncomputable def FY(C:Addr)(f:Str)(te:TE):TS:=λ D σ H=>te σ H λ v H1=>∀ a dx,H1 a=none->H1 dx=none->dx ≠ a->D.rt v (upd (upd H1 dx (.xd [(f,v)])) a (.ext (XO a C dx)))
theorem LU{x pw:Str}{p p1:Pos}{k:Nat}{fd:FuncData}(c:XC X.K C fI)(F:FnOk X.prog X.w X.K X.mg X.base CX0 k fI fd ["self",pw] (spI C f))(hr:Room (k + 1) X.A)(hb:Binds X.K fd ["self",pw] [])(hcalm:X.calm=true)(hg:Gl X x)(hm:X.mg x=some (.ref C))(he:PE X.nox e te)
    (hdb:(x == ("__debug__":Str))=false:=by decide) (hst:starEach [e] X.env=(false,eval e X.env) :: starEach [] X.env:=by rfl) (hpl:(backTo p1 (starEach [] X.env)).any (·.1)=false:=by rfl) :
    PX C f X (.Raise (some (.Call (.Name x p) [e] [] p1)) none pos) (FY C f te):=by
  intro pins s σ H D I h
  refine K2 (I.ok.hd hcalm) c (wpAny_Call_Name_kw (Dx I hg hm ?_ hdb))
  have pa:PA X.nox [e] (CN te DM):=Ao he C8 hst
  let W:V->Hp->Prop:=λ v H1=>∀ a dx,H1 a=none->H1 dx=none->dx ≠ a->D.rt v (upd (upd H1 dx (.xd [(f,v)])) a (.ext (XO a C dx)))
  have h':(CN te DM) σ H λ vs H1=>match vs with | [v]=>W v H1|_=>False:=h
  refine PySem.W.callWith_K (h₀:=X.base) I.ok.mod.kin c.kp (thx (pa p1 pins s σ H _ (I.wish _) h') (λ us s1 ⟨vs,H1,I1',r,q⟩=>⟨I1'.kIn,?_⟩) λ _ _ z=>z.elim) hst hpl
  have I1:=I1'.unwish
  match vs,r,q with
  | [v],.cons (b:=u) rv .nil,q=>
  obtain⟨nm,qn,N,bs,bm,sn,sub,ab,col,dd,k0,k1,k2,k3,k5,lk,ov⟩:=c.at_
  obtain⟨hh,g,d,tk,os⟩:=s1
  refine M1 I1.kIn (I1.kIn _ _ lk) (ov.has (by decide +kernel)) (ov.not (by decide +kernel)) (ov.not (by decide +kernel)) c.init (beq_iff_eq.mp c.fn) (by show 1 <= sizeLine;decide) ?_
  have ke:∀ b o,hh.get? b=some o->((hh.push { cls:=.type "tuple",data:=.seq [u].toArray }).push (E4 C hh.objs.size)).get? b=some o:=λ b o e=>Heap.get?_push_of_some _ (Heap.get?_push_of_some _ e)
  have ea:((hh.push { cls:=.type "tuple",data:=.seq [u].toArray }).push (E4 C hh.objs.size)).get? (hh.objs.size + 1)=some (E4 C hh.objs.size):=Heap.get?_push_at (by rw[Heap.size_push]) rfl
  have na:H1 (hh.objs.size + 1)=none:=I1.hok.fresh (Nat.le_succ _)
  have I2:=I1.laid (a:=hh.objs.size + 1) (o:=.ext (X0 (hh.objs.size + 1) C hh.objs.size)) (t':=tk) ke (Nat.le_succ _) (KU ea)
  refine wpAny_call (codeAny_mono (F.run _ X.stack _ _ ⟨[.ref (hh.objs.size + 1),u],[]⟩ [.ref (hh.objs.size + 1),u] [.ref (hh.objs.size + 1),v]
    (λ z H2=>z=.non/\∃ dx,H2=upd (upd (upd H1 (hh.objs.size + 1) (.ext (X0 (hh.objs.size + 1) C hh.objs.size))) dx (.xd [(f,v)])) (hh.objs.size + 1) (.ext (X1 (hh.objs.size + 1) C dx hh.objs.size))/\H1 dx=none/\dx ≠ hh.objs.size + 1) (λ _ _ _=>False)
    (hr.make C [u] []) (I2.env0.make C [u] []) (by have:=hb ⟨_,g,d,tk,os⟩ [.ref (hh.objs.size + 1),u] I2.kIn rfl;simpa using this) (.cons rfl (.cons rv .nil)) ?_) λ res s' hq=>?_)
  . refine⟨_,v,hh.objs.size,rfl,AQ,λ dx n1 n2=>⟨rfl,dx,rfl,by rw[AI n2]at n1;exact n1,n2⟩⟩
  . cases res with
    | error x=>exact hq.elim
    | ok fl=>
      cases fl with
      | next=>exact hq.elim
      | brk=>exact hq.elim
      | cont=>exact hq.elim
      | ret rv'=>
        obtain⟨z,H3,I3,rz,ez,dx,eH,nd,ne⟩:=I2.after hq
        subst ez
        have hA:H3 (hh.objs.size + 1)=some (.ext (X1 (hh.objs.size + 1) C dx hh.objs.size)):=by rw[eH];exact AQ
        obtain⟨x1,_⟩:=(show ObjOk X.prog X.w H3 s'.heap (hh.objs.size + 1) (.ext (X1 (hh.objs.size + 1) C dx hh.objs.size))from I3.hok _ _ hA)
        have x1:s'.heap.get? (hh.objs.size + 1)=some ⟨.ref C,some dx,.fields #[.ref hh.objs.size,.none,.none,.none,.bool false,.none],#[]⟩:=x1
        refine⟨rz,hh.objs.size + 1,hh.objs.size,dx,#[],rfl,I3.kIn,x1,hh.objs.size + 1,dx,.none,v,σ,upd H3 (hh.objs.size + 1) (.ext (XO (hh.objs.size + 1) C dx)),rfl,?_,⟨_,_,x1,rfl⟩,.inl rfl,AQ,(λ T e=>by cases e),?_,?_⟩
        . exact I3.write (x:=hh.objs.size + 1) (e:=hh.objs.size + 1) (t':=s'.toks) (by rw[hA];exact True.intro) (.inl rfl) (λ _ _ _ e=>e) ⟨_,x1⟩ ⟨⟨_,_,_,x1,rfl⟩,⟨_,x1⟩,λ h1 h2 ⟨tb,vs,sl,e,z⟩ k=>⟨tb,vs,sl,k _ e,z⟩⟩
        . rw[AI ne,eH,AI ne,AQ]
        . have e2:upd H3 (hh.objs.size + 1) (.ext (XO (hh.objs.size + 1) C dx))=upd (upd H1 dx (.xd [(f,v)])) (hh.objs.size + 1) (.ext (XO (hh.objs.size + 1) C dx)):=by
            rw[eH];funext b;unfold upd;by_cases z1:b=hh.objs.size + 1
            . simp only[if_pos z1]
            . simp only[if_neg z1]
          rw[e2]
          exact q _ dx na nd ne
end
end L2
namespace L2
open PySem PySem.Spec PyProof.Rows
section
variable{X:Cx}{pins:List (Addr × Obj)}{σ:St}{H:Hp}{s:Shared}{C fI a dx:Addr}{f:Str}
theorem Jv{M:Model}{A:Around}{E:Value->Shared->Prop}{i:Nat}{x:Str}{v:V}{Q:Unit->Shared->Prop}(I:Inv X pins σ H s)(hN:X.N.Nodup)(hi:X.N[i]? = some x)(hk:X.env.scope.names.lookup x=some .local)(hv:σ[i]? = some (some v))
    (h:∀ s',Inv X pins (σ.set i none) H s'->Q () s'):wpAny M A (unbindName X.env x) Q E s:=by
  obtain⟨m,hn,hl⟩:=id I.loc
  have hcls:(X.env.scope.kind == .class || (X.env.scope.kind == .module && X.env.locals != X.env.globals))=false:=by rw[I.ok.kind];rfl
  have hiσ:i < σ.length:=by rw[I.len];exact(List.getElem?_eq_some_iff.mp hi).1
  obtain⟨u,_,lk⟩:=hl i x v hi hv (.inl hk)
  have mu:m x=some u:=by
    rcases lk with⟨_,e⟩|⟨k,_⟩
    . exact e
    . rcases k with k|k <;> (have k':X.env.scope.names.lookup x=_:=k;rw[hk]at k';cases k')
  refine wpAny_unbindName_local hk hn mu hcls λ h' u' hn' hs=>?_
  obtain⟨oL,_,_,hoL,_⟩:=id hn
  have low:∀ b o,X.s₀.heap.get? b=some o->b ≠ X.env.locals:=λ b o e=>Nat.ne_of_lt (Nat.lt_of_lt_of_le (Heap.lt_size e) I.ok.above)
  refine h _ ⟨I.ok,I.os,I.bare,⟨λ b o e n hb hx=>(hs.2 b (low b o e)).trans (I.base.keep b o e n hb hx),λ b o e n hb hx=>?_,I.base.free,λ b o e hx=>?_,I.base.tups,I.base.frzs,I.base.tbls⟩,⟨_,hn',λ j y v' e1 e2 e3=>?_⟩,λ y c e=>?_,I.free,I.freeC,λ p hp=>?_,λ b ob e=>?_,by simpa using I.len⟩
  . obtain⟨sl,e1⟩:=I.base.slot b o e n hb hx
    exact⟨sl,(hs.2 b (low b o e)).trans e1⟩
  . obtain⟨o',e1⟩:=I.base.there b o e hx
    exact⟨o',(hs.2 b (low b o e)).trans e1⟩
  . by_cases hj:j=i
    . subst hj
      rw[List.getElem?_set_self hiσ]at e2
      cases e2
    . rw[List.getElem?_set_ne (Ne.symm hj)]at e2
      obtain⟨u',r',q⟩:=hl j y v' e1 e2 e3
      refine⟨u',r',?_⟩
      rcases q with⟨k,e⟩|⟨k,c,e,z⟩
      . refine .inl ⟨k,?_⟩
        have:y ≠ x:=λ e=>hj (FR hN e1 (e ▸ hi))
        simp[this,e]
      . exact .inr ⟨k,c,e,z.sameBut hs (I.cne y c e)⟩
  . obtain⟨w',z⟩:=I.cell y c e
    exact⟨w',z.sameBut hs (I.cne y c e)⟩
  . obtain⟨e,n,ne,nf,d⟩:=I.pin p hp
    exact⟨(hs.2 p.1 ne).trans e,n,ne,nf,d⟩
  . refine(I.hok b ob e).stay (λ c w' hc q=>(hs.2 c ?_).trans q) (λ _ q=>q) λ _ _ q=>q
    rintro rfl
    rcases hc with z|hc
    . rw[<- z,I.free]at e;cases e
    . rw[I.free]at hc;cases hc
theorem Lc{tb:Value}{T:Addr}{h':Heap}(I:Inv X pins σ H s)(ha:H a=some (.ext (XO a C dx)))(hT:∀ T,tb=.ref T->H T=none/\New X pins T)(N:Note (frs X.stack) a tb s.heap h')(ex:Exo h' a C dx (.ref T)):Inv X pins σ H { s with heap:=h' }:=by
  have na:∀ b,H b=none->b ≠ a:=λ b n z=>by rw[z,ha]at n;cases n
  have hok:=Hq I.hok N ex ha (λ T e=>(hT T e).1) I.stkFree
  have all:∀ ch:List Addr,(∀ b,.ref b=tb->b ∈ ch)->Un (frs X.stack) ch H H s.heap h':=λ ch hc=>
    ⟨λ b o e n nf nc=>N.keep b o e (na b n) (λ z=>nc (hc b z)) nf,λ b o e n hf nc=>N.slot b o e hf,λ _ _ _ n _=>n,λ b o e _=>N.there b o e,λ _ _ e=>e,λ _ _ _ e=>e,λ b ps e=>⟨#[],by rw[e];simp⟩⟩
  by_cases q:∃ T,tb=.ref T
  . obtain⟨T0,e⟩:=q
    exact I.call' (s':={ s with heap:=h' }) (ch:=[T0]) rfl (all [T0] λ b z=>by rw[e]at z;cases z;simp) hok I.bare λ b hb=>by
      have:b=T0:=by simpa using hb
      subst this
      exact(hT b e).2
  . exact I.call' (s':={ s with heap:=h' }) (ch:=[]) rfl (all [] λ b z=>absurd ⟨b,z.symm⟩ q) hok I.bare λ b hb=>absurd hb (by simp)
noncomputable abbrev Cx.hand(X:Cx)(e:Value):Cx:={ X with A:=X.A.mark (some e),calm:=false,xe:=λ _ _=>False }
theorem Inv.hand(I:Inv X pins σ H s)(e:Value):Inv (X.hand e) pins σ H s:=
  ⟨⟨I.ok.mod,I.ok.kind,I.ok.glob,I.ok.blt,I.ok.above,I.ok.inj,I.ok.has,I.ok.cab,(λ h=>by cases h),I.ok.frames,I.ok.stk,I.ok.exf,I.ok.bs,I.ok.bsz,I.ok.noex,I.ok.exfs,I.ok.funs,I.ok.frf⟩,I.os,I.bare,I.base,I.loc,I.cell,I.free,I.freeC,I.pin,I.hok,I.len⟩
theorem Inv.unhand{e:Value}(I:Inv (X.hand e) pins σ H s)(hd:X.calm=true->X.A.handled=none):Inv X pins σ H s:=
  ⟨⟨I.ok.mod,I.ok.kind,I.ok.glob,I.ok.blt,I.ok.above,I.ok.inj,I.ok.has,I.ok.cab,hd,I.ok.frames,I.ok.stk,I.ok.exf,I.ok.bs,I.ok.bsz,I.ok.noex,I.ok.exfs,I.ok.funs,I.ok.frf⟩,I.os,I.bare,I.base,I.loc,I.cell,I.free,I.freeC,I.pin,I.hok,I.len⟩
theorem Hz{P:Program}{w:World}{h:Heap}{v:V}(hok:HOk P w H h)(ha:H a=some (.ext (XO a C dx)))(hd:H dx=some (.xd [(f,v)])):∃ dx vs sl od,PySem.W.InstAt h a ⟨.ref C,some dx,.fields vs,sl⟩ C (some od):=by
  obtain⟨⟨tb,vs,sl,e,_⟩,_⟩:=(show ObjOk P w H h a (.ext (XO a C dx))from hok a _ ha)
  obtain⟨mA,n,r⟩:=(show ObjOk P w H h dx (.xd [(f,v)])from hok dx _ hd)
  obtain⟨od,ho,hl⟩:=GZ n
  exact⟨dx,vs,sl,od,e,rfl,rfl,ho⟩
noncomputable def LH(K:PySem.W.Frag)(C:Addr)(f:Str)(b:Bool)(c:V):List V->Hp->VK->Prop:=λ vs H Q=>∃ a dx v,vs=[.ref a,c]/\H a=some (.ext (XO a C dx))/\H dx=some (.xd [(f,v)])/\Q (.bl b) H
theorem IH{b:Bool}{c:V}{u:Value}(xc:XC X.K C fI)(xi:XI X.K C)(hu:∀ u',RelV c u'->u'=u)(hk:PySem.W.kitOne X.K (.ref C) u=some b):BR X (.builtin "isinstance") (LH X.K C f b c):=by
  intro pins s σ H xs us Q I r h
  obtain⟨a,dx,v,rfl,ha,hd,q⟩:=h
  match us,r with
  | [u1,u2],.cons r1 (.cons r2 .nil)=>
  obtain rfl:u1=.ref a:=r1
  obtain rfl:=hu u2 r2
  exact PySem.W.kia_one (Hw xc xi) I.kIn (Hz I.hok ha hd) hk (by intro z;cases z) λ tk=>⟨.bl b,H,I.tok tk,rfl,q⟩
noncomputable def Rl(K:PySem.W.Frag)(C:Addr)(f:Str)(b:Bool)(cs:List Addr):List V->Hp->VK->Prop:=λ vs H Q=>∃ a dx v tp,vs=[.ref a,.ref tp]/\H a=some (.ext (XO a C dx))/\H dx=some (.xd [(f,v)])/\H tp=some (.tup (cs.map V.ref))/\Q (.bl b) H
theorem IY:∀ {cs:List Addr} {us:List Value},Vals (cs.map V.ref) us->us=cs.map Value.ref
  | [],_,.nil=>rfl
  | c :: cs,_,.cons r t=>by rw[IY t];rw[show _=Value.ref c from r];rfl
theorem M0{b:Bool}{cs:List Addr}(xc:XC X.K C fI)(xi:XI X.K C)(hk:PySem.W.kitAny X.K (.ref C) (cs.map Value.ref)=some b):BR X (.builtin "isinstance") (Rl X.K C f b cs):=by
  intro pins s σ H xs us Q I r h
  obtain⟨a,dx,v,tp,rfl,ha,hd,ht,q⟩:=h
  match us,r with
  | [u1,u2],.cons r1 (.cons r2 .nil)=>
  obtain rfl:u1=.ref a:=r1
  obtain rfl:u2=.ref tp:=r2
  obtain⟨_,its,r3,ob,e,hc,⟨n,hd'⟩,_⟩:=(show ObjOk X.prog X.w H s.heap tp (.tup (cs.map V.ref))from I.hok tp _ ht)
  obtain rfl:=IY r3
  obtain⟨oc,od,odt,osl⟩:=ob
  subst hc hd'
  exact PySem.W.kia_tup (Hw xc xi) I.kIn (Hz I.hok ha hd) e hk (by intro z;cases z) λ tk=>⟨.bl b,H,I.tok tk,rfl,q⟩
noncomputable def QZ(C:Addr)(ta:TE)(f:Str):TE:=λ σ H Q=>ta σ H λ x H1=>∃ a dx v,x=.ref a/\H1 a=some (.ext (XO a C dx))/\H1 dx=some (.xd [(f,v)])/\Q v H1
theorem Nm{e:Expr}{ta:TE}{pos:Pos}(xc:XC X.K C fI)(n:Cq X.K C f)(he:PE X e ta)(hb:attributeBase e f X.env (eval e X.env)=eval e X.env):PE X (.Attribute e f pos) (QZ C ta f):=by
  intro pins s σ H Q I h
  refine ON hb (thn (he pins s σ H _ I h) λ u s1 ⟨x,H1,I1,rx,a,dx,v,ex,ha,hd,q⟩=>?_)
  subst ex
  obtain rfl:u=Value.ref a:=rx
  obtain⟨⟨tb,vs,sl,e1,_⟩,_⟩:=(show ObjOk X.prog X.w H1 s1.heap a (.ext (XO a C dx))from I1.hok a _ ha)
  obtain⟨mA,ns,r⟩:=(show ObjOk X.prog X.w H1 s1.heap dx (.xd [(f,v)])from I1.hok dx _ hd)
  obtain⟨u',hu,ru⟩:=RelO.some_of (v:=v) (o:=mA f) (by have:=r f;rw[List.lookup_cons_self]at this;exact this)
  exact OB I1.kIn xc e1 ns n hu (KQ ru) ⟨v,H1,I1.tok _,ru,q⟩
end
end L2
namespace L2
open PySem PySem.Spec PyProof.Rows
section
variable{X:Cx}{C fI:Addr}{f:Str}
noncomputable def Re(C:Addr)(f:Str)(i k:Nat)(th:TS)(D:Ends):VK:=λ v H'=>∀ a dx,H' a=some (.ext (XO a C dx))->H' dx=some (.xd [(f,v)])->th ⟨λ σ2 H2=>D.nx (σ2.set i none) H2,λ _ _=>False,λ _ _=>False,λ _ _=>False⟩ ((List.replicate k none).set i (some (.ref a))) H'
noncomputable def Ko(C:Addr)(f:Str)(i:Nat)(tb tx th:TS):TS:=λ D σ H=>tb D σ H ∨ tx ⟨λ _ _=>False,Re C f i σ.length th D,λ _ _=>False,λ _ _=>False⟩ σ H
theorem PD{i:Nat}{B:Addr}{xB n:Str}{pB ph pos:Pos}{body suite:List Stmt}{b0:Stmt}{tb tx th:TS}(hst:X.stack=X.env :: X.outer/\X.env.frame=some X.env.locals)(hb:PSs X.nox body tb)(hx:PXs C f X body tx)(hg:Gl X xB)(hm:X.mg xB=some (.ref B))
    (hB:PySem.W.exmOne X.K (.ref C) (.ref B)=some true) (hN:X.N.Nodup) (hi:X.N[i]? = some n) (hl:X.env.scope.names.lookup n=some .local) (hh:∀ a,PSs (X.hand (.ref a)) (b0 :: suite) th) (hdb:(xB == ("__debug__":Str))=false:=by decide) :
    PS X (.Try body [.ExceptHandler (some (.Name xB pB)) (some n) (b0 :: suite) ph] [] [] pos) (Ko C f i tb tx th):=by
  intro pins s σ H D I h
  refine wpAny_Try_except ?_
  rcases h with h|h
  . refine thx (hb pins s σ H D (I.wish _) h) (λ fl s1 q=>?_) λ _ _ z=>z.elim
    have q:=q.unwish
    cases fl with
    | next=>exact wpAny_execs_nil q
    | ret v=>exact q
    | brk=>exact q
    | cont=>exact q
  . refine thx (hx pins s σ H _ I h) (λ fl s1 q=>?_) λ e s1 q=>?_
    . cases fl with
      | next=>obtain⟨_,_,_,z⟩:=q;exact z.elim
      | ret v=>obtain⟨_,_,_,_,_,z⟩:=q;exact z.elim
      | brk=>obtain⟨_,_,_,z⟩:=q;exact z.elim
      | cont=>obtain⟨_,_,_,z⟩:=q;exact z.elim
    . obtain⟨a,dx,tb',v,σ',H',rfl,I1,ex,ht,ha,hT,hd,q⟩:=q
      have fr:X.A.frames=some (X.env :: X.outer):=by rw[<- hst.1];exact I1.ok.frames
      have fl0:s1.heap.FunFrames X.base (X.env :: X.outer):=by rw[<- hst.1];exact I1.stack
      refine Hr (base:=X.base) fr fl0 hst.2 ex ht λ h' T z nT ex' tr N=>?_
      have I2:Inv X pins σ' H' { s1 with heap:=h' }:=Lc I1 ha hT (by rw[hst.1];exact N) ex'
      have LT:PySem.W.Looks (model X.prog X.w) h' (typeOf (.ref a)) (.ref C):=by
        obtain⟨vs,sl,e,_⟩:=ex'
        exact(PySem.W.Looks.ld e).andThen .now
      refine wpAny_handleBy_cons (codeAny_handlers_test (Dx (X:=X.hand (.ref a)) (I2.hand _) hg hm ?_ hdb)) (by intro q;cases q)
      refine PySem.W.Looks.here (s:={ s1 with heap:=h' }) (PySem.W.exm_one I2.kIn LT hB) ?_
      refine codeAny_handlers_suite_as ?_
      obtain⟨vs,sl,ea,e1⟩:=id ex'
      obtain⟨oT,ts,eT,dT,e3⟩:=tr
      refine wpAny_setFlight_none (s:={ s1 with heap:=h' }) ea rfl e1 eT dT (Array.getElem?_eq_some_iff.mp e3).1 ?_
      have nw:=I1.new z
      have I3:=I2.turned (it:=T) (t':=s1.toks) (h':=h'.update T (Obj.mapFields (·.setIfInBounds 3 Value.none))) (λ b o n e=>(Heap.get?_update_other _ _ (Ne.symm n)).trans e) (I1.hok.fresh z) nw.2.1 nw.1 nw.2.2.1 nw.2.2.2
      have I3':=I3.weak (σ':=List.replicate σ.length none) (by rw[List.length_replicate,I.len,I3.len]) λ i v e=>by
        rw[List.getElem?_replicate]at e;split at e <;> cases e
      refine Bn (v:=.ref a) I3' hN hi (.inl hl) rfl (λ s4 I4=>?_) (.inr hl)
      refine thx (hh a pins s4 _ H' _ (I4.hand _) (q a dx ha hd)) (λ fl s5 q5=>?_) λ _ _ z=>z.elim
      cases fl with
      | next=>
        obtain⟨σ2,H2,I5,q6⟩:=q5
        have I5:=I5.unhand I.ok.hd
        show wpAny _ _ (do bindName X.env n .none;unbindBehindTheSuite X.env n ph) _ _ _
        refine wpAny_bind (wpAny_bindName (Bn (v:=.non) I5 hN hi (.inl hl) rfl (λ s6 I6=>?_) (.inr hl)))
        unfold unbindBehindTheSuite
        have li:i < σ2.length:=by rw[I5.len];exact(List.getElem?_eq_some_iff.mp hi).1
        refine wpAny_onRaise (Jv (v:=.non) I6 hN hi hl (List.getElem?_set_self li) λ s7 I7=>?_)
        rw[List.set_set]at I7
        exact⟨_,_,I7,q6⟩
      | ret v=>obtain⟨_,_,_,_,_,z⟩:=q5;exact z.elim
      | brk=>obtain⟨_,_,_,z⟩:=q5;exact z.elim
      | cont=>obtain⟨_,_,_,z⟩:=q5;exact z.elim
end
end L2
namespace L2
open PySem PySem.Spec PyProof.Rows
theorem FW:bootBuiltins "isinstance"=some (.builtin "isinstance"):=by decide +kernel
theorem OM:bootBuiltins "ValueError"=some (.type "ValueError"):=by decide +kernel
section
variable{X:Cx}{C fI:Addr}{f:Str}
theorem Qm{pos:Pos}(hg:Gl X "ValueError")(hm:X.mg "ValueError"=none):PE X (.Name "ValueError" pos) (tC (.ty "ValueError")):=λ pins s σ H Q I h=>
  Fs I hg hm OM ⟨.ty "ValueError",H,I,rfl,h⟩
noncomputable def J8(C:Addr)(f:Str)(cs:List Addr)(ie is ifd:Nat):TS:=λ D σ H=>∃ a dx v,σ[ie]? = some (some (.ref a))/\is < σ.length/\ie ≠ is/\H a=some (.ext (XO a C dx))/\H dx=some (.xd [(f,v)]) /\
  ∀ t1 t2,H t1=none->H t2=none->t2 ≠ t1->D.nx ((σ.set is (some (.bl false))).set ifd (some (.ref t2))) (upd (upd H t1 (.tup (cs.map V.ref))) t2 (.tup [.str "no",v]))
theorem NY{ie is ifd:Nat}{n xs xf xN:Str}{es:List Expr}{cs:List Addr}{tt:TA}{p1 p2 p3 p4 p5 p6 p7 p8 p9 p10 p11 p12 p13 p14 p15 p16 p17 p18 p19 p20 p21 pN pA pI:Pos}{k1 k2 k3}(xc:XC X.K C fI)(xi:XI X.K C)(na:Cq X.K C f)(gI:Gl X "isinstance")(hI:X.mg "isinstance"=none)(gV:Gl X "ValueError")(hV:X.mg "ValueError"=none)(gN:Gl X xN)(hmN:X.mg xN=some (.ref C))
    (hes:PA X es tt) (htt:∀ σ H (Q:List V->Hp->Prop),Q (cs.map V.ref) H->tt σ H Q) (hcs:cs.length <= 1000) (hk7:PySem.W.kitAny X.K (.ref C) (cs.map Value.ref)=some false) (hkV:PySem.W.kitOne X.K (.ref C) (.type "ValueError")=some true) (hN:X.N.Nodup)
    (i1:X.N[ie]? = some n) (i2:X.N[is]? = some xs) (i3:X.N[ifd]? = some xf) (l1:X.env.scope.names.lookup n=some .local) (l2:X.env.scope.names.lookup xs=some .local) (l3:X.env.scope.names.lookup xf=some .local) (dn:(n == ("__debug__":Str))=false) (dn2:(n == ("__classdict__":Str))=false) (ds:(xs == ("__debug__":Str))=false) (ds2:(xs == ("__classdict__":Str))=false)
    (dN:(xN == ("__debug__":Str))=false) (hba:attributeBase (.Name n p19) f X.env (eval (.Name n p19) X.env)=eval (.Name n p19) X.env)
    (sw1:swapsWith (.Call (.Name "isinstance" p2) [.Name n p3,.Tuple es k1 p4] [] p5) (some (.Name xs p1)) p6.line X.env=pure false) (sw2:swapsWith (.Tuple [.Constant (.str "no") k2 p18,.Attribute (.Name n p19) f p20] k3 p21) (some (.Name xf p17)) p16.line X.env=pure false)
    (st1:starEach [.Name n p3,.Tuple es k1 p4] X.env=(false,eval (.Name n p3) X.env) :: starEach [.Tuple es k1 p4] X.env) (st2:starEach [.Tuple es k1 p4] X.env=(false,eval (.Tuple es k1 p4) X.env) :: starEach [] X.env) :
    PSs X [.Assign [.Name xs p1] (.Call (.Name "isinstance" p2) [.Name n p3,.Tuple es k1 p4] [] p5) p6,
      .If (.BoolOp .And [.Call (.Name "isinstance" p7) [.Name n p8,.Name xN p9] [] p10,.Call (.Name "isinstance" p11) [.Name n p12,.Name "ValueError" p13] [] p14,.UnaryOp .Not (.Name xs p15) pN] pA) [.Assign [.Name xf p17] (.Tuple [.Constant (.str "no") k2 p18,.Attribute (.Name n p19) f p20] k3 p21) p16] [] pI] (J8 C f cs ie is ifd):=by
  have e1:=Hk (pos:=p6) (pos':=p1) (i:=is) hN i2 (.inl l2) (E8 (p:=p2) (pos:=p5) (M0 (f:=f) xc xi hk7) gI hI FW (Ao (Dv (i:=ie) (pos:=p3) i1 (.inl l1) dn dn2) (Ao (Hl (pos:=p4) (x1:=k1) hes) C8 st2) st1) (by decide) (by decide) st1) sw1 (.inr l2)
  have cN:BR X (.builtin "isinstance") (LH X.K C f true (.ref C)):=IH xc xi (u:=.ref C) (λ u' r=>r) (by unfold PySem.W.kitOne;rw[if_pos (by simp)])
  have cV:BR X (.builtin "isinstance") (LH X.K C f true (.ty "ValueError")):=IH xc xi (u:=.type "ValueError") (λ u' r=>r) hkV
  have vn:∀ p,PE X (.Name n p) (J7 ie):=λ p=>Dv i1 (.inl l1) dn dn2
  have c1:=Hi (E8 (p:=p7) (pos:=p10) cN gI hI FW (Ao (vn p8) (Ao (Ik (v:=.ref C) (pos:=p9) gN hmN rfl dN) C8)))
  have c2:=Hi (E8 (p:=p11) (pos:=p14) cV gI hI FW (Ao (vn p12) (Ao (Qm (pos:=p13) gV hV) C8)))
  have c3:=K8 (pos:=pN) (Hi (Dv (i:=is) (pos:=p15) i2 (.inl l2) ds ds2))
  have e2:=MQ (pos:=pI) (Hh (pos:=pA) c1 (Hh c2 (Ii c3))).pt (Ez (Hk (pos:=p16) (pos':=p17) (i:=ifd) hN i3 (.inl l3) (Hl (pos:=p21) (x1:=k3) (Ao (KB (j:=k2) (pos:=p18)) (Ao (Nm (pos:=p20) xc na (vn p19) hba) C8))) sw2 (.inr l3))) GE
  intro pins s σ H D I h
  refine Hj e1 (Ez e2) pins s σ H D I ?_
  obtain⟨a,dx,v,q1,q2,q3,ha,hd,q⟩:=h
  have s1:∀ x:Option V,(σ.set is x)[ie]? = some (some (.ref a)):=λ x=>by rw[List.getElem?_set_ne (Ne.symm q3)];exact q1
  refine⟨.ref a,q1,?_⟩
  refine htt _ _ _ ⟨by rw[List.length_map];exact Nat.le_trans hcs (by decide),λ t1 n1=>⟨a,dx,v,t1,rfl,?_,?_,AQ,?_⟩⟩
  . rw[AI (Aa ha n1)];exact ha
  . rw[AI (Aa hd n1)];exact hd
  have ha':upd H t1 (.tup (cs.map V.ref)) a=some (.ext (XO a C dx)):=by rw[AI (Aa ha n1)];exact ha
  have hd':upd H t1 (.tup (cs.map V.ref)) dx=some (.xd [(f,v)]):=by rw[AI (Aa hd n1)];exact hd
  refine⟨_,s1 _,a,dx,v,rfl,ha',hd',true,rfl,?_⟩
  refine Ln ?_
  refine⟨_,s1 _,a,dx,v,rfl,ha',hd',true,rfl,?_⟩
  refine Ln ?_
  refine⟨.bl false,List.getElem?_set_self q2,false,rfl,?_⟩

  refine Ln ?_
  refine⟨_,s1 _,a,dx,v,rfl,ha',hd',by show 2 <= sizeLine;decide,λ t2 n2=>?_⟩
  have ne:t2 ≠ t1:=λ z=>by rw[z,AQ]at n2;cases n2
  exact q t1 t2 n1 (by rw[AI ne]at n2;exact n2) ne
end
end L2
namespace L2
open PySem PySem.Spec PyProof.Rows
noncomputable def tX(f:Str)(tc:TE):TE:=λ σ H Q=>tc σ H λ v H'=>∀ dx,H' dx=some (.xd [(f,v)])->Q v H'
noncomputable def ED(m:MS):MS:=λ ls hd=>(m ls hd).bind λ p=>match p.1 with
  | .rt _=>none
  | fl=>some (fl,p.2)
noncomputable def Fk(ma me:ME):ME:=λ ls hd=>(ma ls hd).bind λ p=>me ls p.2
noncomputable def mkX(k n:Nat)(m:MS):List D->Hd->Option (D × Hd):=λ ds hd=>if ds.length=k then(match m (ds.map some ++ List.replicate (n - k) none) hd with
  | some (.rt d,hd')=>some (d,hd')
  | _=>none)else none
theorem GH{k n:Nat}{m:MS}:∀ ds hd z,mkX k n m ds hd=some z->ds.length=k:=λ ds hd z h=>by
  unfold mkX at h
  split at h
  . next e=>exact e
  . cases h
noncomputable def Ef(ie is ifd:Nat)(mb mx:MS):MS:=λ ls hd=>match mb ls hd with
  | some r=>some r
  | none=>if ie < ls.length/\is < ls.length/\ifd < ls.length then(match mx ls hd with
    | some (.rt (.im w),hd')=>some (.nx ((List.replicate ls.length none).set ifd (some (.im (.tup [.str "no",w])))),hd')
    | _=>none)else none
section
variable{K:PySem.W.Frag}{C:Addr}{f:Str}{ρ ρ':List Addr}{H H':Hp}{hd hd':Hd}
theorem Rk{tc:TE}{m:ME}(h:RE K tc m):RE K (tX f tc) m:=λ ρ σ H hd ls Q d hd' hR hL hm hQ=>h ρ σ H hd ls _ d hd' hR hL hm λ ρ' H' v x R r dx _=>hQ ρ' H' v x R r
theorem NE{ta te:TE}{ma me:ME}(ha:RE K ta ma)(he:RE K te me):RE K (J9 ta te) (Fk ma me):=by
  intro ρ σ H hd ls Q d hd' hR hL hm hQ
  obtain⟨⟨d1,h1⟩,e1,hm⟩:=Option.bind_eq_some_iff.mp hm
  refine ha ρ σ H hd ls _ d1 h1 hR hL e1 λ ρ1 H1 v1 x1 R1 _=>?_
  exact he ρ1 σ H1 h1 ls Q d hd' R1 (RL.ext hR x1 hL) hm λ ρ2 H2 v2 x2 R2 r2=>hQ ρ2 H2 v2 (x1.trans R1 x2) R2 r2
theorem HW{t:TS}{m:MS}(h:RS K t m):RS K (HL t) (ED m):=by
  intro ρ σ H hd ls E fl hd' hR hL hm hQ
  obtain⟨⟨fl1,h1⟩,e1,hm⟩:=Option.bind_eq_some_iff.mp hm
  refine h ρ σ H hd ls E.non fl1 h1 hR hL e1 λ ρ' H' x R=>?_
  cases fl1 with
  | rt d=>cases hm
  | nx l=>cases hm;exact hQ ρ' H' x R
  | bk l=>cases hm;exact hQ ρ' H' x R
  | ct l=>cases hm;exact hQ ρ' H' x R
theorem Kz{te:TE}{me:ME}(h:RE K te me):RS K (FY C f te) (AM me):=by
  intro ρ σ H hd ls E fl hd' hR hL hm hQ
  obtain⟨⟨d1,h1⟩,e1,hm⟩:=Option.bind_eq_some_iff.mp hm
  cases hm
  refine h ρ σ H hd ls _ d1 h1 hR hL e1 λ ρ1 H1 v x1 R1 r1 a dx na nd ne=>?_
  obtain⟨R2,x2⟩:=R1.hid nd (ho:=.xd [(f,v)])
  obtain⟨R3,x3⟩:=R2.hid (a:=a) (by rw[AI (Ne.symm ne)];exact na) (ho:=.ext (XO a C dx))
  exact hQ ρ1 _ ((x1.trans R1 x2).trans R2 x3) R3 v ((r1.ext R1 x2).ext R2 x3)
theorem Oc{ie is ifd:Nat}{cs:List Addr}{tb tx:TS}{mb mx:MS}(hb:RS K tb mb)(hx:RS K tx mx)(n1:ie ≠ is)(n2:ie ≠ ifd)(n3:is ≠ ifd):RS K (Ko C f ie tb tx (J8 C f cs ie is ifd)) (Ef ie is ifd mb mx):=by
  intro ρ σ H hd ls E fl hd' hR hL hm hQ
  unfold Ef at hm
  split at hm
  . next r e=>
    cases hm
    exact .inl (hb ρ σ H hd ls E fl hd' hR hL e hQ)
  . split at hm
    . next c=>
      split at hm
      . next w h1 e=>
        cases hm
        refine .inr (hx ρ σ H hd ls _ (.rt (.im w)) hd' hR hL e λ ρ1 H1 x1 R1 v r1 a dx ha hd1=>?_)
        have ll:=hL.len
        refine⟨a,dx,v,List.getElem?_set_self (by rw[List.length_replicate,<- ll];exact c.1),by rw[List.length_set,List.length_replicate,<- ll];exact c.2.1,n1,ha,hd1,λ t1 t2 m1 m2 ne=>?_⟩
        obtain⟨R2,x2⟩:=R1.hid m1 (ho:=.tup (cs.map V.ref))
        have m2':upd H1 t1 (.tup (cs.map V.ref)) t2=none:=by rw[AI ne];exact m2
        obtain⟨R3,x3⟩:=R2.hid m2' (ho:=.tup [.str "no",v])
        refine hQ ρ1 _ ((x1.trans R1 x2).trans R2 x3) R3 _ ⟨by simp[ll],λ i d e=>?_⟩
        have li:i < ls.length:=by have:=(List.getElem?_eq_some_iff.mp e).1;simpa using this
        by_cases z:i=ifd
        . subst z
          rw[List.getElem?_set_self (by simpa using li)]at e
          cases e
          refine⟨.ref t2,?_,?_⟩
          . rw[List.getElem?_set_ne n2,List.getElem?_set_self (by simp[<- ll];exact li)]
          . have r2:=(r1.ext R1 x2).ext R2 x3
            simp only[RD,RI]at r2 ⊢
            refine⟨t2,[.str "no",v],rfl,.of AQ,?_⟩
            simp only[RIs]
            exact⟨_,_,rfl,by simp only[RI],_,_,rfl,r2,rfl⟩
        . rw[List.getElem?_set_ne (Ne.symm z),List.getElem?_replicate,if_pos li]at e
          cases e
      . cases hm
    . cases hm
theorem spF.mono{k:Nat}{F:List D->Hd->Option (D × Hd)}{vs:List V}{Q Q':VK}{E E':XK}(h:spF K k F vs H Q E)(k':∀ v H',Q v H'->Q' v H'):spF K k F vs H Q' E':=
  let ⟨a,ρ,hd,ds,d,hd',b,c,e,q⟩:=h;⟨a,ρ,hd,ds,d,hd',b,c,e,λ ρ' H' v x R r=>k' _ _ (q ρ' H' v x R r)⟩
end
noncomputable def spX(C:Addr)(f:Str)(K:PySem.W.Frag)(k:Nat)(F:List D->Hd->Option (D × Hd)):Sp:=λ vs H _ E=>spF K k F vs H (λ v H'=>∀ dx,H' dx=some (.xd [(f,v)])->E (.ref C) (some dx) H') E0
section
variable(C:Addr)(f:Str)(K:PySem.W.Frag)(X:Cx)
structure QX(e:Stmt)(t:TS)(m:MS):Prop where
  p:PX C f X e t
  r:RS K t m
structure QXs(e:List Stmt)(t:TS)(m:MS):Prop where
  p:PXs C f X e t
  r:RS K t m
structure QXE(e:Expr)(t:TE)(m:ME):Prop where
  p:PXE C f X e t
  r:RE K t m
structure QXA(e:List Expr)(t:TE)(m:ME):Prop where
  p:PXA C f X e t
  r:RE K t m
end
section
variable{C fI:Addr}{f:Str}{K:PySem.W.Frag}{X:Cx}{st:Stmt}{rest:List Stmt}{t u:TS}{m m1 m2:MS}{e:Expr}{es:List Expr}{te tb:TE}{me mb:ME}{pos:Pos}
theorem NM(h:QS K X.nox st t m):QX C f K X st (HL t) (ED m):=⟨Ih h.p,HW h.r⟩
theorem FO(h1:QX C f K X st t m1)(h2:QXs C f K X rest u m2):QXs C f K X (st :: rest) (HK t u) (AD m1 m2):=⟨LQ h1.p h2.p,K0 h1.r h2.r⟩
theorem Ev(h1:QX C f K X st t m1):QXs C f K X [st] t m1:=⟨NU h1.p,h1.r⟩
theorem Ia:QXs C f K X [] (HL Gv) (ED AV):=⟨LP GE,HW IV⟩
theorem MM{c:Expr}{a b:List Stmt}{tc:TT}{mc:MT}(hc:QT K X.nox c tc mc)(ha:QXs C f K X a t m1)(hb:QXs C f K X b u m2):QX C f K X (.If c a b pos) (HM tc t u) (Ab mc m1 m2):=⟨Qk hc.p ha.p hb.p,MC hc.r ha.r hb.r⟩
theorem Oz(he:QXE C f K X e te me):QX C f K X (.Return (some e) pos) (FL te) (AM me):=⟨P9 he.p,HV he.r⟩
theorem Oy{x:Str}{pos':Pos}(he:QXE C f K X e te me)(hs:swapsWith e (some (.Name x pos')) pos.line X.env=pure false:=by rfl):QX C f K X (.Assign [.Name x pos'] e pos) (FL te) (AM me):=⟨P8 he.p hs,HV he.r⟩
theorem NL{c a b:Expr}{tc:TT}{mc:MT}(hc:QT K X.nox c tc mc)(ha:QXE C f K X a te me)(hb:QXE C f K X b tb mb):QXE C f K X (.IfExp c a b pos) (tIf tc te tb) (mIf mc me mb):=⟨NW hc.p ha.p hb.p,MH hc.r ha.r hb.r⟩
theorem LK(he:QXE C f K X e te me)(hs:starEach (e :: es) X.env=(false,eval e X.env) :: starEach es X.env:=by rfl):QXA C f K X (e :: es) te me:=⟨LS he.p hs,he.r⟩
theorem K4(ha:QE K X.nox e tb mb)(hr:QXA C f K X es te me)(hs:starEach (e :: es) X.env=(false,eval e X.env) :: starEach es X.env:=by rfl):QXA C f K X (e :: es) (J9 tb te) (Fk mb me):=⟨K7 ha.p hr.p hs,NE ha.r hr.r⟩
theorem NK{x1}(h:QXA C f K X es te me):QXE C f K X (.Tuple es x1 pos) te me:=⟨NV h.p,h.r⟩
theorem LR{j k n:Nat}{fa:Addr}{fd:FuncData}{ps:List Str}{F:List D->Hd->Option (D × Hd)}{st:Stmt}{x:Str}{p:Pos}{ta:TA}(G:FnOk X.prog X.w X.K X.mg X.base (CXN C X.prog X.w) j fa fd ps (spX C f K n F))(hr:Room k X.A)(DA:DefAt X.K X.mg x st fa fd ps)(ha:PA X.nox (e :: es) ta)
    (hjk:j <= k:=by decide) (hg:Gl X x:=by rfl) (hdb:(x == ("__debug__":Str))=false:=by decide) (he:starEach (e :: es) X.env=(false,eval e X.env) :: starEach es X.env:=by rfl) (hpl:(backTo pos (starEach es X.env)).any (·.1)=false:=by rfl) :
    PXE C f X (.Call (.Name x p) (e :: es) [] pos) (tX f (DY (spF K n F) [] E0 ta)):=by
  intro pins s σ H Q I h
  refine wpAny_Call_Name_kw (Dx I hg DA.mg ?_ hdb)
  refine PySem.W.callWith_K (h₀:=X.base) I.ok.mod.kin DA.fn.kp (thx (ha pos pins s σ H _ (I.wish _) h) (λ us s1 ⟨vs,H1,I1',r,q⟩=>⟨I1'.kIn,?_⟩) λ _ _ z=>z.elim) he hpl
  have I1:=I1'.unwish
  dsimp only at q
  rw[List.append_nil]at q
  have q2:spX C f K n F vs H1 (λ _ _=>False) (λ c dx H'=>∃ d v,dx=some d/\H' d=some (.xd [(f,v)])/\Q v H'):=q.mono λ v H' z dx hd=>⟨dx,v,rfl,hd,z dx hd⟩
  have hl:us.length=ps.length:=by rw[<- r.length];exact G.len _ _ _ _ q2
  refine wpAny_call (codeAny_mono (G.run X.A X.stack s1 H1 ⟨us,[]⟩ us vs _ _ (hr.mono hjk) I1.env0 (by have:=DA.bd s1 us I1.kIn (by simpa using hl);simpa using this) r q2) λ res s' hq=>?_)
  cases res with
  | error x=>
    have hq:CXN C X.prog X.w X.stack H1 s1 (λ c dx H'=>∃ d v,dx=some d/\H' d=some (.xd [(f,v)])/\Q v H') x s':=hq
    refine Jn I1 hq λ dx H' ⟨d,v,e1,e2,e3⟩=>?_
    cases e1
    exact⟨v,e2,e3⟩
  | ok fl=>
    cases fl with
    | ret u=>obtain⟨_,_,_,_,_,_,_,z⟩:=hq;exact z.elim
    | next=>exact hq.elim
    | brk=>exact hq.elim
    | cont=>exact hq.elim
theorem EY(w:Nat){j k n:Nat}{fa:Addr}{fd:FuncData}{ps:List Str}{F:List D->Hd->Option (D × Hd)}{st:Stmt}{x:Str}{p:Pos}{ta:TA}{ma:MA}(G:FnOk X.prog X.w X.K X.mg X.base (CXN C X.prog X.w) j fa fd ps (spX C f K n F))(hr:Room k X.A)(DA:DefAt X.K X.mg x st fa fd ps)(ha:QA K X.nox (e :: es) ta ma)(hF:∀ ds hd z,F ds hd=some z->ds.length=n)
    (hjk:j <= k:=by decide) (hg:Gl X x:=by rfl) (hdb:(x == ("__debug__":Str))=false:=by decide) (he:starEach (e :: es) X.env=(false,eval e X.env) :: starEach es X.env:=by rfl) (hpl:(backTo pos (starEach es X.env)).any (·.1)=false:=by rfl) :
    QXE C f K X (.Call (.Name x p) (e :: es) [] pos) (tX f (DY (spF K n F) [] E0 ta)) (AF w F ma):=⟨LR G hr DA ha.p hjk hg hdb he hpl,Rk (He ha.r hF)⟩
theorem okX{P:Program}{w:World}{mg:Str->Option Value}{base:Heap}{x:Str}{fa:Addr}{fd:FuncData}{N ps:List Str}{j:Nat}(DA:DefAt K mg x st fa fd ps)(S:FnScope N ps (AC st))
    (h:∀ (cdv:Value) (A:Around) (outer:List Env) (s:Shared) (H:Hp) (E:XK),Room j (A.deeper (envOfC x (AC st) s.heap.objs.size fa cdv))->∃ t,QXs C f K (DT (CXN C P w) P w K mg base N x (AC st) fa cdv A outer s H E) (Af st) t m) :
    FnOk P w K mg base (CXN C P w) (j + 1) fa fd ps (spX C f K ps.length (mkX ps.length N.length m)):=by
  obtain⟨F,hmg,bd⟩:=DA
  obtain⟨⟨oc,od,kV,doc,pm,an,cdv,ct,osl,rfl,lk,hcd⟩,kp⟩:=F
  refine Mb lk hcd S (λ vs H Q E h=>h.1) λ A outer s H vs Q E hr hs=>?_
  obtain⟨t,q⟩:=h cdv A outer s H E hr
  refine⟨λ _ σ H'=>t ⟨λ _ _=>False,λ v H'=>∀ dx,H' dx=some (.xd [(f,v)])->E (.ref C) (some dx) H',λ _ _=>False,λ _ _=>False⟩ σ H',λ pins s1 σ1 H1 D I h1=>?_,?_⟩
  . refine thx (q.p pins s1 σ1 H1 _ I h1) (λ fl s2 z=>?_) λ e s2 z=>?_
    . cases fl with
      | next=>obtain⟨_,_,_,z⟩:=z;exact z.elim
      | ret v=>obtain⟨_,_,_,_,_,z⟩:=z;exact z.elim
      | brk=>obtain⟨_,_,_,z⟩:=z;exact z.elim
      | cont=>obtain⟨_,_,_,z⟩:=z;exact z.elim
    . obtain⟨a,dx,tb,v,σ',H',e0,I',r⟩:=z
      exact Kk (pins:=pins) ⟨a,dx,tb,v,σ',H',e0,I'.wish _,r⟩ λ v dx H' z hd=>z dx hd
  . obtain⟨hk,ρ,hd,ds,d,hd',hR,hr',hF,hQ⟩:=hs
    unfold mkX at hF
    split at hF
    . next hl=>
      split at hF
      . next d1 h2 e1=>
        cases hF
        rw[<- hl]at e1
        exact q.r ρ _ H hd _ _ (.rt d) hd' hR (FN hr') e1 λ ρ' H' x R v r=>hQ ρ' H' v x R r
      . cases hF
    . cases hF
theorem LL{x pw:Str}{p p1:Pos}{k j:Nat}{fd:FuncData}(c:XC X.K C fI)(F:FnOk X.prog X.w X.K X.mg X.base CX0 k fI fd ["self",pw] (spI C f))(hr:Room j X.A)(hb:Binds X.K fd ["self",pw] [])(hm:X.mg x=some (.ref C))(he:QE K X.nox e te me)(hjk:k + 1 <= j:=by decide)(hcalm:X.calm=true:=by rfl)(hg:Gl X x:=by rfl)
    (hdb:(x == ("__debug__":Str))=false:=by decide) (hst:starEach [e] X.env=(false,eval e X.env) :: starEach [] X.env:=by rfl) (hpl:(backTo p1 (starEach [] X.env)).any (·.1)=false:=by rfl) :
    QX C f K X (.Raise (some (.Call (.Name x p) [e] [] p1)) none pos) (FY C f te) (AM me):=⟨LU c F (hr.mono hjk) hb hcalm hg hm he.p hdb hst hpl,Kz he.r⟩
end
end L2
namespace L2
open PySem PySem.Spec PyProof.Rows PySem.W
noncomputable abbrev Tb:=Addr × Str × Nat × Nat
noncomputable def O5(ts:List Tb):Obj:={ cls:=.str "tables" 0,data:=.fields (ts.flatMap λ t=>[.ref t.1,.str t.2.1 0,.int t.2.2.1 0,.int t.2.2.2 0]).toArray }
noncomputable def Ad(K:PySem.W.Frag)(ts:List Tb):PySem.W.Frag:=(K.filter λ p=>!(ts.map (·.1)).contains p.1) ++ [(mainGlobals,O5 ts)]
theorem Jx:∀ ts:List Tb,Gs (ts.flatMap λ t=>[Value.ref t.1,.str t.2.1 0,.int t.2.2.1 0,.int t.2.2.2 0])=ts.map λ t=>(t.1,t.2.1,⟨t.2.2.1,t.2.2.2,0,0⟩)
  | []=>rfl
  | t :: r=>by
    rw[List.flatMap_cons,List.map_cons,<- Jx r]
    rfl
theorem GV(K:PySem.W.Frag)(ts:List Tb):EQ (Ad K ts)=ts.map λ t=>(t.1,t.2.1,⟨t.2.2.1,t.2.2.2,0,0⟩):=by
  unfold EQ Ad
  rw[List.getLast?_concat]
  show Gs _=_
  rw[<- Jx ts]
theorem Dg{L:List Addr}{a:Addr}(ha:a ∉ L):∀ K:PySem.W.Frag,(K.filter λ p=>!L.contains p.1).lookup a=K.lookup a
  | []=>rfl
  | (b,o) :: r=>by
    have ih:=Dg ha r
    rw[List.filter_cons]
    by_cases hb:b ∈ L
    . have h1:(!L.contains (b,o).1)=false:=by simp[hb]
      have h2:(a == b)=false:=beq_eq_false_iff_ne.mpr λ z=>ha (z ▸ hb)
      rw[if_neg (by rw[h1];decide),List.lookup_cons,h2,ih]
    . have h1:(!L.contains (b,o).1)=true:=by simp[hb]
      rw[if_pos h1,List.lookup_cons,List.lookup_cons,ih]
theorem El{L:List Addr}{P:Addr}(hP:P ∈ L):∀ K:PySem.W.Frag,(K.filter λ p=>!L.contains p.1).lookup P=none
  | []=>rfl
  | (b,o) :: r=>by
    have ih:=El hP r
    rw[List.filter_cons]
    by_cases hb:b ∈ L
    . rw[if_neg (by simp[hb])];exact ih
    . have h2:(P == b)=false:=beq_eq_false_iff_ne.mpr λ z=>hb (z ▸ hP)
      rw[if_pos (by simp[hb]),List.lookup_cons,h2];exact ih
section
variable{K:PySem.W.Frag}{ts:List Tb}
theorem Dc{a:Addr}{o:Obj}(ha:a ∉ ts.map (·.1))(e:K.lookup a=some o):(Ad K ts).lookup a=some o:=by
  unfold Ad
  rw[List.lookup_append,Dg ha,e];rfl
theorem O4{h:Heap}(X:K.In h){g:Obj}(hg:K.lookup mainGlobals=some g)(hP:mainGlobals ∉ ts.map (·.1)):(Ad K ts).In h:=λ a o e=>by
  unfold Ad at e
  rw[List.lookup_append]at e
  by_cases ha:a ∈ ts.map (·.1)
  . rw[El ha,Option.none_or]at e
    have h2:(a == mainGlobals)=false:=beq_eq_false_iff_ne.mpr λ z=>hP (z ▸ ha)
    rw[List.lookup_cons,h2]at e;cases e
  . rw[Dg ha]at e
    cases k:K.lookup a with
    | some o'=>rw[k]at e;cases e;exact X _ _ k
    | none=>
      rw[k,Option.none_or,List.lookup_cons]at e
      by_cases hm:a=mainGlobals
      . subst hm;rw[hg]at k;cases k
      . rw[beq_eq_false_iff_ne.mpr hm]at e;cases e
theorem O2(hM:mainGlobals ∉ ts.map (·.1)){P:Addr}(hP:P ∈ ts.map (·.1)):(Ad K ts).lookup P=none:=by
  unfold Ad
  have h2:(P == mainGlobals)=false:=beq_eq_false_iff_ne.mpr λ z=>hM (z ▸ hP)
  rw[List.lookup_append,El hP,Option.none_or,List.lookup_cons,h2]
  rfl
theorem Fun.mark{x qual:Str}{st:Stmt}{f:Addr}{fd:FuncData}(D:Fun K x qual st f fd){h:Heap}(X:K.In h)(hP:∀ P ∈ ts.map (·.1),h.get? P=some (tabObj #[])):Fun (Ad K ts) x qual st f fd:=by
  have neP:∀ a o,K.lookup a=some o->o ≠ tabObj #[]->a ∉ ts.map (·.1):=λ a o e n z=>by
    have:=X _ _ e
    rw[hP a z]at this;exact n (Option.some.inj this).symm
  obtain⟨⟨oc,od,kV,doc,pm,an,cdv,ct,osl,rfl,lk,hcd⟩,kp⟩:=D
  have hf:f ∉ ts.map (·.1):=neP f _ lk (λ z=>by cases z)
  refine⟨⟨oc,od,kV,doc,pm,an,cdv,ct,osl,rfl,Dc hf lk,?_⟩,?_⟩
  . unfold codeIn at hcd ⊢
    split at hcd
    . next c0=>
      split at hcd
      . next vs sl k=>
        have hc:c0 ∉ ts.map (·.1):=neP c0 _ k (λ z=>by
          have:vs=#[]:=by injection z with _ _ z _;injection z
          rw[this]at hcd;cases hcd)
        simp only[Dc hc k]
        exact hcd
      . cases hcd
    . cases hcd
  . unfold keepIn
    simp only[Dc hf lk]
end
theorem Qf{K:PySem.W.Frag}{H:Hp}{a:Addr}{xs:List V}(hS:SqL K H a xs)(hO:∀ ys,H a ≠ some (.lst ys)):RoL K H a xs:=by
  rcases hS with(h|h)|h
  . exact absurd h (hO xs)
  . exact .inl h
  . exact .inr h
theorem KL{Pg:Program}{w:World}{K:PySem.W.Frag}{mg mb:Str->Option Value}{k:Nat}{fa a:Addr}{fd:FuncData}{x:Str}{ts:List Tb}{s₁:Shared}{vs:List Value}{ns:List Int}{F:List D->Hd->Option (D × Hd)}
    (KX:K.In s₁.heap) (hns:s₁.heap.Ns mainGlobals mg) (hb:s₁.heap.Ns builtinsNs mb) (hbb:∀ x:Str,x ≠ "__name__"->mb x=bootBuiltins x) (hlim:s₁.heap.NoLimit) (hg:s₁.gens=#[])
    (ha:s₁.heap.get? a=some { cls:=.type "list",data:=.seq vs.toArray }) (hi:IntsAre vs ns) (hl:ns.length <= sizeLine) (hr:Room k callerA)
    (hT:∀ P ∈ ts.map (·.1),∃ cc,s₁.heap.TableAt cc P #[]) (hPK:∀ P ∈ ts.map (·.1),K.lookup P=none) (htab:EQ K=ts.map λ t=>(t.1,t.2.1,⟨t.2.2.1,t.2.2.2,0,0⟩))
    (Fn:∀ base:Heap,K.In base->base.Ns mainGlobals mg->(∀ b o,b ∉ ts.map (·.1)->b ≠ a->s₁.heap.get? b=some o->base.get? b=some o)->FnOk Pg w K mg base CX0 k fa fd [x] (spF K 1 F)) (hbind:∀ (s:Shared) (u:Value),BindsTo s fd ⟨[u],[]⟩ [(x,u)])
    (hF:∃ hd',F [.ro ns] []=some (.im (.bl true),hd')) :
    codeAny (model Pg w) callerA (.call (.ref fa) ⟨[.ref a],[]⟩) (λ r s'=>r=.ok (.ret (.bool true))/\OldK s₁.heap s'.heap/\s'.os=s₁.os/\AllBare s'.gens) s₁:=by
  have rv:=GU hi
  have lenV:=hi.length
  have hP:∀ P ∈ ts.map (·.1),s₁.heap.get? P=some (tabObj #[]):=λ P h=>let ⟨cc,t⟩:=hT P h;t.2
  have haP:a ∉ ts.map (·.1):=λ z=>by rw[hP a z]at ha;cases ha
  have core:∀ H:Hp,(∀ b,b ∉ ts.map (·.1)->H b=none ∨ ∃ o xs,H b=some (.frz o (.lst xs)))->(∀ P ∈ ts.map (·.1),H P=some (.tbl #[]))->SqL K H a (ns.map V.int)->HOk Pg w H s₁.heap->(∀ b,H b ≠ none->b=a ∨ b ∈ ts.map (·.1))->(H a ≠ none->K.lookup a=none) ->
      codeAny (model Pg w) callerA (.call (.ref fa) ⟨[.ref a],[]⟩) (λ r s'=>r=.ok (.ret (.bool true))/\OldK s₁.heap s'.heap/\s'.os=s₁.os/\AllBare s'.gens) s₁:=by
    intro H hO hHP hS hok hA hK
    have base_of:∀ {b:Addr} {o:Obj},s₁.heap.get? b=some o->H b=none->(EF s₁.heap H).get? b=some o:=λ e n=>Lp e n
    have noA:∀ {b:Addr} {o:Obj} {es:Array DictEntry} {ep:Nat},s₁.heap.get? b=some o->o.data=.dict es ep->H b=none:=λ {b o es ep} e d=>by
      cases q:H b with
      | none=>rfl
      | some u=>
        rcases hA b (by rw[q];simp)with e'|e'
        . subst e'
          rw[ha]at e;cases e
          have d':Data.seq vs.toArray _=Data.dict es ep:=d
          cases d'
        . rw[hP b e']at e;cases e
          cases d
    have nsK:∀ {b:Addr} {m:Str->Option Value},s₁.heap.Ns b m->(EF s₁.heap H).Ns b m:=λ {b m} ⟨o,es,ep,e,d,r⟩=>⟨o,es,ep,base_of e (noA e d),d,r⟩
    have hKb:K.In (EF s₁.heap H):=λ b o e=>base_of (KX b o e) (by
      cases q:H b with
      | none=>rfl
      | some u=>
        rcases hA b (by rw[q];simp)with e'|e'
        . subst e'
          rw[hK (by rw[q];simp)]at e;cases e
        . rw[hPK b e']at e;cases e)
    have hM:Mod K mg (EF s₁.heap H):=⟨hKb,nsK hns,⟨mb,nsK hb,hbb⟩,let ⟨mc,h1,h2⟩:=hlim;⟨mc,nsK h1,h2⟩⟩
    have e0:Env0 Pg w K mg (EF s₁.heap H) callerA [] s₁ H:=⟨rfl,hM,λ b o e=>Nw e,Nat.le_of_eq (KP _ _),trivial,λ b hb=>absurd (show b ∈ ([]:List Addr)from hb) (by simp),hok,.of_eq hg⟩
    have hsp:spF K 1 F [.ref a] H (λ v _=>v=.bl true) λ _ _ _=>False:=by
      obtain⟨hd',e⟩:=hF
      refine⟨rfl,[],[],[.ro ns],.im (.bl true),hd',⟨rfl,List.nodup_nil,λ y hy=>?_,λ n o a h=>by simp at h⟩,?_,e,λ ρ' H' v _ _ r=>?_⟩
      . rw[htab]at hy
        obtain⟨t,ht,rfl⟩:=List.mem_map.mp hy
        exact⟨#[],hHP t.1 (List.mem_map.mpr ⟨t,ht,rfl⟩),.inl rfl⟩
      . simp only[RDs,RD]
        refine⟨_,_,rfl,⟨a,rfl,Qf hS λ ys z=>?_⟩,rfl⟩
        rcases hO a haP with q|⟨o,ys,q⟩ <;> (rw[q]at z;cases z)
      . simpa only[RD,RI]using r
    refine codeAny_mono ((Fn _ hKb (nsK hns) λ b o n1 n2 e=>base_of e (by
      cases q:H b with
      | none=>rfl
      | some u=>
                  rcases hA b (by rw[q];simp)with e'|e'
                  . exact absurd e' n2
                  . exact absurd e' n1)).run callerA [] s₁ H ⟨[.ref a],[]⟩ [.ref a] [.ref a] _ _ hr e0 (hbind s₁ (.ref a)) (.cons rfl .nil) hsp) λ r s' h=>?_
    cases r with
    | error e=>exact h.elim
    | ok fl=>
      cases fl with
      | next=>exact False.elim h
      | brk=>exact False.elim h
      | cont=>exact False.elim h
      | ret u=>
        obtain⟨v,H',os,bare,un,hok',r',q⟩:=h
        have q':v=.bl true:=q
        subst q'
        obtain rfl:u=Value.bool true:=r'
        have keep:∀ b o,b ∉ ts.map (·.1)->s₁.heap.get? b=some o->s'.heap.get? b=some o:=λ b o nb e=>by
          cases q:H b with
          | none=>exact un.keep b o e q (by intro z;exact absurd (show b ∈ ([]:List Addr)from z) (by simp)) (by simp)
          | some u=>
            rcases hO b nb with z|⟨ob,xs,z⟩
            . rw[q]at z;cases z
            . have z2:=un.frzs b ob _ z
              obtain⟨e1,_⟩:=hok b _ z
              obtain⟨e2,_⟩:=hok' b _ z2
              rw[e]at e1;cases e1
              exact e2
        refine⟨rfl,⟨λ b o e=>?_,λ b o e=>?_⟩,os,bare⟩
        . by_cases nb:b ∈ ts.map (·.1)
          . obtain⟨cc,tb⟩:=hT b nb
            obtain⟨more,hm⟩:=un.tbls b #[] (hHP b nb)
            have hb':s'.heap.get? b=some (tabObj (#[] ++ more)):=hok' b _ hm
            rw[hP b nb]at e;cases e
            exact .inr (.inl ⟨tb.isCodeTable,rfl,#[],more,rfl,hb'⟩)
          . exact .inl (keep b o nb e)
        . by_cases nb:b ∈ ts.map (·.1)
          . obtain⟨more,hm⟩:=un.tbls b #[] (hHP b nb)
            exact⟨_,hok' b _ hm⟩
          . exact⟨o,keep b o nb e⟩
  cases hk:K.lookup a with
  | some o=>
    have e:=KX a o hk
    rw[ha]at e
    cases e
    refine core (λ b=>if b ∈ ts.map (·.1)then some (.tbl #[])else none) (λ b nb=>.inl (if_neg nb)) (λ P hp=>if_pos hp) (.inr ⟨_,vs.toArray,_,hk,rfl,rfl,rfl,by rw[List.size_toArray,lenV];exact hl,by simpa using rv⟩) (λ b u z=>?_) (λ b z=>?_) λ z=>absurd (if_neg haP) z
    . by_cases hb:b ∈ ts.map (·.1)
      . have z':=(if_pos hb).symm.trans z
        cases z'
        exact hP b hb
      . have z':=(if_neg hb).symm.trans z
        cases z'
    . by_cases hb:b ∈ ts.map (·.1)
      . exact .inr hb
      . exact absurd (if_neg hb) z
  | none=>
    refine core (λ b=>if b ∈ ts.map (·.1)then some (.tbl #[])else if b=a then some (.frz { cls:=.type "list",data:=.seq vs.toArray } (.lst (ns.map V.int)))else none) (λ b nb=>?_) (λ P hp=>if_pos hp) (.inl (.inr ⟨{ cls:=.type "list",data:=.seq vs.toArray },(if_neg haP).trans (if_pos rfl)⟩)) (λ b u z=>?_) (λ b z=>?_) λ _=>hk
    . rw[if_neg nb]
      by_cases hb:b=a
      . exact .inr ⟨_,_,if_pos hb⟩
      . exact .inl (if_neg hb)
    . by_cases hp:b ∈ ts.map (·.1)
      . have z':=(if_pos hp).symm.trans z
        cases z'
        exact hP b hp
      . have z:=(if_neg hp).symm.trans z
        by_cases hb:b=a
        . have z':=(if_pos hb).symm.trans z
          cases z'
          subst hb
          exact⟨ha,by rw[List.length_map];exact hl,vs,_,rv,ha⟩
        . have z':=(if_neg hb).symm.trans z
          cases z'
    . by_cases hp:b ∈ ts.map (·.1)
      . exact .inr hp
      . by_cases hb:b=a
        . exact .inl hb
        . exact absurd ((if_neg hp).trans (if_neg hb)) z
theorem walkL{l:PySem.W.OpenLaw}{n k:Nat}{q:Program}{loose:List Str}{XP:(Str->Option Value)->Heap->Prop}{YP:World->Heap->Prop}{d:DefRec}{K:Params->PySem.W.Frag}{F:List D->Hd->Option (D × Hd)}(xs:List (Str × Str × Nat × Nat))
    (hn:l.most=some n) (hn2:n <= sizeLine) (hdf:d.params.defaults=[]) (hr:Room k callerA) (hdr:∀ x ∈ xs,∃ dr,(recsOf q).find? (λ e=>e.name == x.1)=some dr)
    (hF:∀ ns:List Int,∃ hd',F [.ro ns] []=some (.im (.bl true),hd'))
    (hY:∀ (w:World) (h:Heap),YP w h->(K w.params).In h)
    (G:∀ (w:World) (mg:Str->Option Value) (fa:Addr) (h:Heap) (c P:Str->Addr),(K w.params).In h->h.Ns mainGlobals mg->mg d.name=some (.ref fa) ->
      (∀ x ∈ xs,h.get? (P x.1)=some (tabObj #[])/\CodeHd h (c x.1) (P x.1)/\∃ a o fd,mg x.1=some (.ref a)/\h.get? a=some o/\o.data=.func fd/\fd.code=.ref (c x.1)) ->
      (∃ g,(K w.params).lookup mainGlobals=some g)/\∃ fd:FuncData,(∀ (s:Shared) (u:Value),BindsTo s fd ⟨[u],[]⟩ [("_law_script",u)]) /\
        ∀ base:Heap,(Ad (K w.params) (xs.map λ x=>(P x.1,x.2))).In base->base.Ns mainGlobals mg->(∀ x ∈ xs,CodeHd base (c x.1) (P x.1))->(∀ x ∈ xs,base.BuiltinsAt mg (P x.1))->FnOk l.prog w (Ad (K w.params) (xs.map λ x=>(P x.1,x.2))) mg base CX0 k fa fd ["_law_script"] (spF (Ad (K w.params) (xs.map λ x=>(P x.1,x.2))) 1 F)) :
    PySem.W.WalkO q loose XP YP l.row.toRowW d [] (λ f vs=>PySem.call f vs):=by
  refine Att.attach_call hn hdf λ w s₀ s₁ mg mb fa o pm cd doc a vs ns Gr Y ho hd hcd hmg hobj hints hlen hg=>?_
  have KX:=hY w _ Y
  have each:∀ x:Str,∃ cp:Addr × Addr,(∃ y ∈ xs,y.1=x)->(∃ cc,s₁.heap.TableAt cc cp.2 #[])/\CodeHd s₁.heap cp.1 cp.2/\∃ a o fd,mg x=some (.ref a)/\s₁.heap.get? a=some o/\o.data=.func fd/\fd.code=.ref cp.1:=by
    intro x
    by_cases hx:∃ y ∈ xs,y.1=x
    . obtain⟨y,hy,rfl⟩:=hx
      obtain⟨dr,hdr⟩:=hdr y hy
      have hnm:dr.name=y.1:=beq_iff_eq.mp (List.find?_some (p:=λ e:DefRec=>e.name == y.1) hdr)
      obtain⟨a',o',fd',c,P,h1,h2,h3,h4,h5,h6⟩:=Gr.T.tab dr (List.mem_of_find?_eq_some hdr)
      rw[hnm]at h1
      exact⟨(c,P),λ _=>⟨⟨_,h6⟩,CodeHd.of h5 h6,a',o',fd',h1,h2,h3,h4⟩⟩
    . exact⟨(0,0),λ h=>absurd h hx⟩
  obtain⟨cp,hcp⟩:=Classical.skolem.mp each
  have hcp:∀ x ∈ xs,(∃ cc,s₁.heap.TableAt cc (cp x.1).2 #[])/\CodeHd s₁.heap (cp x.1).1 (cp x.1).2/\∃ a o fd,mg x.1=some (.ref a)/\s₁.heap.get? a=some o/\o.data=.func fd/\fd.code=.ref (cp x.1).1:=λ x hx=>hcp x.1 ⟨x,hx,rfl⟩
  have hts:∀ P ∈ (xs.map λ x=>((cp x.1).2,x.2)).map (·.1),∃ x ∈ xs,P=(cp x.1).2:=λ P hP=>by
    obtain⟨t,ht,rfl⟩:=List.mem_map.mp hP
    obtain⟨x,hx,rfl⟩:=List.mem_map.mp ht
    exact⟨x,hx,rfl⟩
  have hP:∀ x ∈ xs,s₁.heap.get? (cp x.1).2=some (tabObj #[]):=λ x hx=>by
    obtain⟨⟨cc,t⟩,_⟩:=hcp x hx;exact t.2
  have hmP:mainGlobals ∉ (xs.map λ x=>((cp x.1).2,x.2)).map (·.1):=λ z=>by
    obtain⟨x,hx,ez⟩:=hts _ z
    obtain⟨o,es,ep,e,dd,_⟩:=Gr.T.g
    rw[ez,hP x hx]at e;cases e;cases dd
  obtain⟨⟨g,hgl⟩,fd,hb,hFn⟩:=G w mg fa _ (λ x=>(cp x).1) (λ x=>(cp x).2) KX Gr.T.g hmg λ x hx=>⟨hP x hx,(hcp x hx).2⟩
  refine KL (ts:=xs.map λ x=>((cp x.1).2,x.2)) (K:=Ad (K w.params) (xs.map λ x=>((cp x.1).2,x.2))) (O4 KX hgl hmP) Gr.T.g Gr.T.b Gr.T.builtins Gr.T.nolimit hg hobj hints (Nat.le_trans hlen hn2) hr (λ P hp=>by obtain⟨x,hx,rfl⟩:=hts P hp;exact(hcp x hx).1) (λ P hp=>O2 hmP hp) (GV _ _) (λ base kb nb keep=>hFn base kb nb (λ x hx=>?_) λ x hx=>?_) hb (hF ns)
  . obtain⟨oc,vs',file,tf,flags,tg,inF,text,tt,e1,r1,r2,r3,r4,r5,r6,r7,r8,hne⟩:=(hcp x hx).2.1
    have hn:(cp x.1).1 ∉ (xs.map λ x=>((cp x.1).2,x.2)).map (·.1):=λ z=>by
      obtain⟨y,hy,ez⟩:=hts _ z
      rw[ez,hP y hy]at e1;cases e1;cases r1
    exact⟨oc,vs',file,tf,flags,tg,inF,text,tt,keep (cp x.1).1 oc hn (λ z=>by rw[z,hobj]at e1;cases e1;exact absurd (show Value.type "list"=Value.type "code" from r1) (by decide)) e1,r1,r2,r3,r4,r5,r6,r7,r8,hne⟩
  . obtain⟨bm,ob,b1,b2,b3,b4,b5,b6⟩:=Gr.T.bmain
    have nP:∀ y ∈ xs,bm ≠ (cp y.1).2:=λ y hy z=>by rw[z,hP y hy]at b3;cases b3;cases b4
    have hn:bm ∉ (xs.map λ x=>((cp x.1).2,x.2)).map (·.1):=λ z=>by
      obtain⟨y,hy,ez⟩:=hts _ z
      exact nP y hy ez
    refine⟨bm,ob,b1,b2,λ z=>?_,nP x hx,keep bm ob hn (λ z=>by rw[z,hobj]at b3;cases b3;exact absurd (show Value.type "list"=Value.type "module" from b4) (by decide)) b3,b4,b5,b6⟩
    obtain⟨o,es,ep,e,dd,_⟩:=Gr.T.g
    rw[<- z,b3]at e;cases e;rw[b6]at dd;cases dd
end L2
namespace L2
open PySem PySem.Spec PyProof.Rows PySem.W
noncomputable def Le(K K':Frag):Prop:=∀ a o,K.lookup a=some o->(∀ vs,o.data ≠ .fields vs)->K'.lookup a=some o
theorem O3{K:Frag}{ts:List Tb}{h:Heap}(X:K.In h)(hP:∀ P ∈ ts.map (·.1),h.get? P=some (tabObj #[])):Le K (Ad K ts):=λ a o e n=>Dc (λ z=>by
  have:=X _ _ e
  rw[hP a z]at this
  cases this
  exact n _ rfl) e
section
variable{K K':Frag}(L:Le K K')
include L
theorem Le.ns{a:Addr}{n:Str}{r:Option Value}(e:nsIn K a n=some r):nsIn K' a n=some r:=by
  unfold nsIn at e ⊢
  split at e
  . next c d es k sl ho=>rw[L a _ ho (λ vs q=>by cases q)];exact e
  . cases e
theorem Le.own{n:Str}{c:Value}{r:Option Value}(e:ownIn K n c=some r):ownIn K' n c=some r:=by
  cases c with
  | ref a=>
    simp only[ownIn]at e ⊢
    split at e
    . next c d cd sl ho=>rw[L a _ ho (λ vs q=>by cases q)];exact L.ns e
    . cases e
  | _=>exact e
theorem Le.along{n:Str}:∀ {l:List Value} {r:Option Value},alongIn K n l=some r->alongIn K' n l=some r
  | [],_,e=>e
  | c :: l,r,e=>by
    simp only[alongIn]at e ⊢
    split at e
    . next v q=>rw[L.own q];exact e
    . next q=>rw[L.own q];exact Le.along e
    . cases e
theorem Le.find{t:Value}{n:Str}{r:Option Value}(e:findIn K t n=some r):findIn K' t n=some r:=by
  cases t with
  | ref a=>
    simp only[findIn]at e ⊢
    split at e
    . next c d cd sl ho=>rw[L a _ ho (λ vs q=>by cases q)];exact L.along e
    . cases e
  | _=>exact e
theorem Le.cls{C:Addr}{cd:ClassData}(e:clsIn K C=some cd):clsIn K' C=some cd:=by
  unfold clsIn at e ⊢
  split at e
  . next c d cd sl ho=>rw[L C _ ho (λ vs q=>by cases q)];exact e
  . cases e
theorem Le.mro{C:Addr}{b:Value}{r:Bool}(e:mroIn K C b=some r):mroIn K' C b=some r:=by
  obtain⟨cd,a,e⟩:=Option.bind_eq_some_iff.mp e
  unfold mroIn;rw[L.cls a];exact e
theorem Le.sub{t b:Value}{r:Bool}(e:subIn K t b=some r):subIn K' t b=some r:=by
  cases t with
  | ref a=>exact L.mro e
  | _=>exact e
theorem Le.typeC{C:Addr}{t:Value}(c:(clsIn K C).isSome=true)(e:typeIn K (.ref C)=some t):typeIn K' (.ref C)=some t:=by
  simp only[typeIn]at e ⊢
  unfold clsIn at c
  split at c
  . next x d cd sl ho=>rw[ho]at e;rw[L C _ ho (λ vs q=>by cases q)];exact e
  . cases c
theorem Le.kitCls{t c:Value}{r:Bool}(e:kitCls K t c=some r):kitCls K' t c=some r:=by
  unfold PySem.W.kitCls at e ⊢
  split at e
  . next C=>
    split at e
    . next q=>
      have q1:(clsIn K C).isSome=true:=by cases z:(clsIn K C).isSome <;> simp[z]at q ⊢
      have q2:typeIn K (.ref C)=some (.type "type"):=by rw[q1]at q;simpa using q
      obtain⟨cd,hc⟩:=Option.isSome_iff_exists.mp q1
      rw[if_pos (by rw[L.cls hc,L.typeC q1 q2];rfl)]
      exact L.sub e
    . cases e
  . next T=>
    split at e
    . next q=>rw[if_pos q];exact L.sub e
    . cases e
  . cases e
theorem Le.kitOne{t c:Value}{r:Bool}(e:kitOne K t c=some r):kitOne K' t c=some r:=by
  unfold PySem.W.kitOne at e ⊢
  split at e
  . next q=>rw[if_pos q];exact e
  . next q=>rw[if_neg q];exact L.kitCls e
theorem Le.kitAny{t:Value}:∀ {cs:List Value} {r:Bool},kitAny K t cs=some r->kitAny K' t cs=some r
  | [],_,e=>e
  | c :: cs,r,e=>by
    simp only[PySem.W.kitAny]at e ⊢
    split at e
    . next q=>rw[L.kitOne q];exact e
    . next q=>rw[L.kitOne q];exact Le.kitAny e
    . cases e
theorem Le.exm{t c:Value}{r:Bool}(e:exmOne K t c=some r):exmOne K' t c=some r:=by
  unfold PySem.W.exmOne at e ⊢
  split at e
  . next q=>
    rw[if_pos (by rw[L.sub (beq_iff_eq.mp q)];rfl)]
    exact L.kitCls e
  . cases e
theorem Le.noAttr{C:Addr}{f:Str}(e:Cq K C f):Cq K' C f:=L.find e
theorem Le.xi{C:Addr}(i:XI K C):XI K' C:=⟨L.find i.ca,i.gd,i.tk,L.mro i.mo⟩
theorem Le.xc{C fI:Addr}(hf:∃ o fd,K.lookup fI=some o/\o.data=.func fd)(c:XC K C fI):XC K' C fI:=by
  obtain⟨nm,q,N,bs,bm,sn,sub,ab,col,dd,k0,k1,k2,k3,k5,lk,ov⟩:=c.at_
  have lk':=L C _ lk (λ vs q=>by cases q)
  obtain⟨o,fd,e,d⟩:=hf
  have e':=L fI o e (λ vs q=>by rw[d]at q;cases q)
  refine⟨⟨nm,q,N,bs,bm,sn,sub,ab,col,dd,k0,k1,k2,k3,k5,lk',ov⟩,L.find c.init,?_,?_,L.find c.sa,L.find c.ga,L.find c.gx⟩
  . have:=c.fn
    unfold PySem.W.isFn PySem.W.typeIn at this ⊢
    dsimp only at this ⊢
    rw[e]at this;rw[e'];exact this
  . have:=c.kp
    unfold PySem.W.keepIn at this ⊢
    dsimp only at this ⊢
    rw[lk]at this;rw[lk']
    dsimp only at this ⊢
    unfold PySem.W.specialIn PySem.W.typeIn at this ⊢
    dsimp only at this ⊢
    rw[lk]at this;rw[lk'];exact this
end
end L2
namespace L2
open PySem PySem.Spec PyProof.Rows
structure Dj(m mn:MS):Prop where
  rt:∀ ls hd d x,m ls hd=some (.rt d,x)->mn ls hd=none
  nx:∀ ls hd fl x,m ls hd=some (fl,x)->(∀ d,fl ≠ .rt d)->mn ls hd=some (fl,x)
noncomputable def DjE(m mn:ME):Prop:=∀ ls hd z,m ls hd=some z->mn ls hd=none
noncomputable def DjA(m:ME)(mn:MA):Prop:=∀ ls hd z,m ls hd=some z->mn ls hd=none
noncomputable def DjF(X F:List D->Hd->Option (D × Hd)):Prop:=∀ ds hd z,X ds hd=some z->F ds hd=none
section
variable{m mn m1 n1 m2 n2:MS}{me mf:ME}{i:Nat}
theorem dj_norm:Dj (ED m) m:=by
  constructor
  . intro ls hd d x e
    obtain⟨⟨fl,y⟩,e1,e2⟩:=Option.bind_eq_some_iff.mp e
    cases fl <;> cases e2
  . intro ls hd fl x e n
    obtain⟨⟨fl1,y⟩,e1,e2⟩:=Option.bind_eq_some_iff.mp e
    cases fl1 <;> cases e2 <;> exact e1
theorem IA(a:Dj m1 n1)(b:Dj m2 n2):Dj (AD m1 m2) (AD n1 n2):=by
  constructor
  . intro ls hd d x e
    obtain⟨⟨fl,y⟩,e1,e2⟩:=Option.bind_eq_some_iff.mp e
    unfold AD
    cases fl with
    | rt d1=>rw[a.rt _ _ _ _ e1];rfl
    | nx l=>rw[a.nx _ _ _ _ e1 (λ d q=>by cases q)];exact b.rt _ _ _ _ e2
    | bk l=>cases e2
    | ct l=>cases e2
  . intro ls hd fl x e n
    obtain⟨⟨fl1,y⟩,e1,e2⟩:=Option.bind_eq_some_iff.mp e
    unfold AD
    cases fl1 with
    | rt d1=>cases e2;exact absurd rfl (n d1)
    | nx l=>rw[a.nx _ _ _ _ e1 (λ d q=>by cases q)];exact b.nx _ _ _ _ e2 n
    | bk l=>cases e2;rw[a.nx _ _ _ _ e1 (λ d q=>by cases q)];rfl
    | ct l=>cases e2;rw[a.nx _ _ _ _ e1 (λ d q=>by cases q)];rfl
theorem Mf{c:MT}(a:Dj m1 n1)(b:Dj m2 n2):Dj (Ab c m1 m2) (Ab c n1 n2):=by
  constructor
  . intro ls hd d x e
    obtain⟨⟨q,y⟩,e1,e2⟩:=Option.bind_eq_some_iff.mp e
    unfold Ab;rw[e1]
    dsimp only[Option.bind_some]at e2 ⊢
    cases q
    . exact b.rt _ _ _ _ e2
    . exact a.rt _ _ _ _ e2
  . intro ls hd fl x e n
    obtain⟨⟨q,y⟩,e1,e2⟩:=Option.bind_eq_some_iff.mp e
    unfold Ab;rw[e1]
    dsimp only[Option.bind_some]at e2 ⊢
    cases q
    . exact b.nx _ _ _ _ e2 n
    . exact a.nx _ _ _ _ e2 n
theorem Hc{ls:Ls}{hd:Hd}{fl:Fl}{x:Hd}(e:AM me ls hd=some (fl,x))(n:∀ d,fl ≠ .rt d):False:=by
  obtain⟨⟨d,y⟩,e1,e2⟩:=Option.bind_eq_some_iff.mp e
  cases e2;exact n d rfl
theorem IB:Dj (AM me) CQ:=⟨λ _ _ _ _ _=>rfl,λ _ _ _ _ e n=>(Hc e n).elim⟩
theorem Hb{ls:Ls}{hd:Hd}{d:D}{x:Hd}(e:AM me ls hd=some (.rt d,x)):∃ z,me ls hd=some z:=by
  obtain⟨z,e1,e2⟩:=Option.bind_eq_some_iff.mp e
  exact⟨z,e1⟩
theorem Q6(h:DjE me mf):Dj (AM me) (AM mf):=⟨λ ls hd d x e=>by obtain⟨z,q⟩:=Hb e;unfold AM;rw[h _ _ _ q];rfl,λ _ _ _ _ e n=>(Hc e n).elim⟩
theorem Q5(h:DjE me mf):Dj (AM me) (Ac i mf):=⟨λ ls hd d x e=>by obtain⟨z,q⟩:=Hb e;simp only[KW,h _ _ _ q,Option.bind_none],λ _ _ _ _ e n=>(Hc e n).elim⟩
theorem FU{w:Nat}{X F:List D->Hd->Option (D × Hd)}{ma:MA}(h:DjF X F):DjE (AF w X ma) (AF w F ma):=by
  intro ls hd z e
  obtain⟨p,e1,e2⟩:=Option.bind_eq_some_iff.mp e
  unfold AF;rw[e1]
  dsimp only[Option.bind_some]at e2 ⊢
  split at e2
  . next c=>
    obtain⟨r,e3,_⟩:=Option.bind_eq_some_iff.mp e2
    rw[if_pos c,h _ _ _ e3];rfl
  . cases e2
theorem Q4{c:MT}{ma na mb nb:ME}(a:DjE ma na)(b:DjE mb nb):DjE (mIf c ma mb) (mIf c na nb):=by
  intro ls hd z e
  obtain⟨⟨q,y⟩,e1,e2⟩:=Option.bind_eq_some_iff.mp e
  unfold mIf;rw[e1]
  dsimp only[Option.bind_some]at e2 ⊢
  cases q
  . exact b _ _ _ e2
  . exact a _ _ _ e2
theorem Lw{mr:MA}(h:DjE me mf):DjA me (A2 mf mr):=λ ls hd z e=>by unfold A2;rw[h _ _ _ e];rfl
theorem Ka{ma:ME}{mr:MA}(h:DjA me mr):DjA (Fk ma me) (A2 ma mr):=λ ls hd z e=>by
  obtain⟨p,e1,e2⟩:=Option.bind_eq_some_iff.mp e
  unfold A2;rw[e1]
  show(mr ls p.2).bind _=none
  rw[h _ _ _ e2];rfl
theorem OK{mr:MA}(h:DjA me mr):DjE me (BB mr):=λ ls hd z e=>by unfold BB;rw[h _ _ _ e];rfl
theorem KZ{k n:Nat}(h:Dj m mn):DjF (mkX k n m) (mkF k n mn):=by
  intro ds hd z e
  unfold mkX at e
  unfold mkF
  split at e
  . next c=>
    rw[if_pos c]
    split at e
    . next d x q=>rw[h.rt _ _ _ _ q]
    . cases e
  . cases e
theorem Mo{ma:ME}{ls:Ls}{hd:Hd}{Q:D->Hd->Prop}(h:WE ma ls hd λ _ x=>WE me ls x Q):WE (Fk ma me) ls hd Q:=WP.bind h
theorem Jt{k n:Nat}{ds:List D}{hd:Hd}{Q:D->Hd->Prop}(hl:ds.length=k)(h:WS m (ds.map some ++ List.replicate (n - k) none) hd λ f x=>∃ d,f=.rt d/\Q d x):WF (mkX k n m) ds hd Q:=by
  obtain⟨f,x,e,d,rfl,q⟩:=h
  refine⟨d,x,?_,q⟩
  unfold mkX;rw[if_pos hl,e]
theorem Mj{ie is ifd:Nat}{mb mx:MS}{ls:Ls}{hd:Hd}{Q:Fl->Hd->Prop}(h:WS mb ls hd Q):WS (Ef ie is ifd mb mx) ls hd Q:=by
  obtain⟨fl,x,e,q⟩:=h
  refine⟨fl,x,?_,q⟩
  unfold Ef;rw[e]
theorem Mi{ie is ifd:Nat}{mb mx:MS}{ls:Ls}{hd:Hd}{Q:Fl->Hd->Prop}(dj:Dj mx mb)(l:ie < ls.length/\is < ls.length/\ifd < ls.length)
    (h:WS mx ls hd λ fl x=>∃ w,fl=.rt (.im w)/\Q (.nx ((List.replicate ls.length none).set ifd (some (.im (.tup [.str "no",w]))))) x):WS (Ef ie is ifd mb mx) ls hd Q:=by
  obtain⟨fl,x,e,w,rfl,q⟩:=h
  refine⟨_,x,?_,q⟩
  unfold Ef;rw[dj.rt _ _ _ _ e,if_pos l,e]
end
structure ExcW(P:Program)(w:World)(K:PySem.W.Frag)(mg:Str->Option Value)(base:Heap)(C B fI c1 c2 c3 c4 c5 c6 c7:Addr)(fdI:FuncData):Prop where
  xc:XC K C fI
  xi:XI K C
  na:Cq K C "word"
  mgC:mg "NoRule"=some (.ref C)
  mgB:mg "BenchError"=some (.ref B)
  ve:mg "ValueError"=none
  exm:PySem.W.exmOne K (.ref C) (.ref B)=some true
  kv:PySem.W.kitOne K (.ref C) (.type "ValueError")=some true
  k7:PySem.W.kitAny K (.ref C) ([c1,c2,c3,c4,c5,c6,c7].map Value.ref)=some false
  m1:mg "NoBack"=some (.ref c1)
  m2:mg "NoPaper"=some (.ref c2)
  m3:mg "NoRow"=some (.ref c3)
  m4:mg "NoText"=some (.ref c4)
  m5:mg "NoWish"=some (.ref c5)
  m6:mg "NoWork"=some (.ref c6)
  m7:mg "TooMany"=some (.ref c7)
  ini:FnOk P w K mg base CX0 1 fI fdI ["self","word"] (spI C "word")
  bd:Binds K fdI ["self","word"] []
section
variable{K:PySem.W.Frag}{X:Cx}{C B fI c1 c2 c3 c4 c5 c6 c7:Addr}{fdI:FuncData}
theorem GX{p p1 pos:Pos}{j:Nat}{e:Expr}{te:TE}{me:ME}(E:ExcW X.prog X.w X.K X.mg X.base C B fI c1 c2 c3 c4 c5 c6 c7 fdI)(hr:Room j X.A)(he:QE K X.nox e te me)(hjk:2 <= j:=by decide)(hcalm:X.calm=true:=by rfl)(hg:Gl X "NoRule":=by rfl)
    (hst:starEach [e] X.env=(false,eval e X.env) :: starEach [] X.env:=by rfl) (hpl:(backTo p1 (starEach [] X.env)).any (·.1)=false:=by rfl) :
    QX C "word" K X (.Raise (some (.Call (.Name "NoRule" p) [e] [] p1)) none pos) (FY C "word" te) (AM me):=LL E.xc E.ini hr E.bd E.mgC he hjk hcalm hg (by decide) hst hpl
theorem P3{ie is ifd:Nat}{n xs xf:Str}{body:List Stmt}{tb tx:TS}{mb mx:MS}{p1 p2 p3 p4 p5 p6 p7 p8 p9 p10 p11 p12 p13 p14 p15 p16 p17 p18 p19 p20 p21 pN pA pI q1 q2 q3 q4 q5 q6 q7 pB ph pos:Pos}{k1 k2 k3}(E:ExcW X.prog X.w X.K X.mg X.base C B fI c1 c2 c3 c4 c5 c6 c7 fdI)(bI:X.mg "isinstance"=none)
    (hb:QSs K X.nox body tb mb) (hx:QXs C "word" K X body tx mx) (n1:ie ≠ is) (n2:ie ≠ ifd) (n3:is ≠ ifd) (hN:X.N.Nodup)
    (i1:X.N[ie]? = some n) (i2:X.N[is]? = some xs) (i3:X.N[ifd]? = some xf) (l1:X.env.scope.names.lookup n=some .local:=by rfl) (l2:X.env.scope.names.lookup xs=some .local:=by rfl) (l3:X.env.scope.names.lookup xf=some .local:=by rfl) (hst:X.stack=X.env :: X.outer/\X.env.frame=some X.env.locals:=by exact⟨rfl,rfl⟩)
    (gB:Gl X "BenchError":=by rfl) (gI:Gl X "isinstance":=by rfl) (gV:Gl X "ValueError":=by rfl) (gN:Gl X "NoRule":=by rfl) (g1:Gl X "NoBack":=by rfl) (g2:Gl X "NoPaper":=by rfl) (g3:Gl X "NoRow":=by rfl) (g4:Gl X "NoText":=by rfl) (g5:Gl X "NoWish":=by rfl) (g6:Gl X "NoWork":=by rfl) (g7:Gl X "TooMany":=by rfl)
    (dn:(n == ("__debug__":Str))=false:=by decide) (dn2:(n == ("__classdict__":Str))=false:=by decide) (ds:(xs == ("__debug__":Str))=false:=by decide) (ds2:(xs == ("__classdict__":Str))=false:=by decide)
    (hba:attributeBase (.Name n p19) "word" X.env (eval (.Name n p19) X.env)=eval (.Name n p19) X.env:=by rfl)
    (sw1:swapsWith (.Call (.Name "isinstance" p2) [.Name n p3,.Tuple [.Name "NoBack" q1,.Name "NoPaper" q2,.Name "NoRow" q3,.Name "NoText" q4,.Name "NoWish" q5,.Name "NoWork" q6,.Name "TooMany" q7] k1 p4] [] p5) (some (.Name xs p1)) p6.line X.env=pure false:=by rfl) (sw2:swapsWith (.Tuple [.Constant (.str "no") k2 p18,.Attribute (.Name n p19) "word" p20] k3 p21) (some (.Name xf p17)) p16.line X.env=pure false:=by rfl) :
    QS K X (.Try body [.ExceptHandler (some (.Name "BenchError" pB)) (some n) [.Assign [.Name xs p1] (.Call (.Name "isinstance" p2) [.Name n p3,.Tuple [.Name "NoBack" q1,.Name "NoPaper" q2,.Name "NoRow" q3,.Name "NoText" q4,.Name "NoWish" q5,.Name "NoWork" q6,.Name "TooMany" q7] k1 p4] [] p5) p6,
      .If (.BoolOp .And [.Call (.Name "isinstance" p7) [.Name n p8,.Name "NoRule" p9] [] p10,.Call (.Name "isinstance" p11) [.Name n p12,.Name "ValueError" p13] [] p14,.UnaryOp .Not (.Name xs p15) pN] pA) [.Assign [.Name xf p17] (.Tuple [.Constant (.str "no") k2 p18,.Attribute (.Name n p19) "word" p20] k3 p21) p16] [] pI] ph] [] [] pos)
      (Ko C "word" ie tb tx (J8 C "word" [c1,c2,c3,c4,c5,c6,c7] ie is ifd)) (Ef ie is ifd mb mx):=by
  refine⟨PD hst hb.p hx.p gB E.mgB E.exm hN i1 l1 (λ a=>?_),Oc hb.r hx.r n1 n2 n3⟩
  have pg:∀ {x:Str} {c:Addr} {q:Pos},Gl X x->X.mg x=some (.ref c)->(x == ("__debug__":Str))=false->PE (X.hand (.ref a)) (.Name x q) (tC (.ref c)):=λ g m d=>Ik (X:=X.hand (.ref a)) (v:=.ref _) g m rfl d
  exact NY (X:=X.hand (.ref a)) (cs:=[c1,c2,c3,c4,c5,c6,c7]) E.xc E.xi E.na gI bI gV E.ve gN E.mgC
    (Ao (pg g1 E.m1 (by decide)) (Ao (pg g2 E.m2 (by decide)) (Ao (pg g3 E.m3 (by decide)) (Ao (pg g4 E.m4 (by decide)) (Ao (pg g5 E.m5 (by decide)) (Ao (pg g6 E.m6 (by decide)) (Ao (pg g7 E.m7 (by decide)) C8)))))))
    (λ σ H Q h=>h) (by show 7 <= 1000;decide) E.k7 E.kv hN i1 i2 i3 l1 l2 l3 dn dn2 ds ds2 (by decide) hba sw1 sw2 rfl rfl
end
end L2
namespace L2
open PySem PySem.Spec PyProof.Rows
noncomputable def Rj(tn tx:TS):TS:=λ D σ H=>tn D.non σ H ∨ tx D σ H
noncomputable def Ek(mn mx:MS):MS:=λ ls hd=>match ED mn ls hd with
  | some r=>some r
  | none=>mx ls hd
section
variable{C:Addr}{f:Str}{K:PySem.W.Frag}{X:Cx}{st:Stmt}{tn tx:TS}{mn mx:MS}
theorem P0(h:QS K X.nox st tn mn)(hx:QX C f K X st tx mx):QX C f K X st (Rj tn tx) (Ek mn mx):=by
  constructor
  . intro pins s σ H D I q
    rcases q with q|q
    . exact Ih h.p pins s σ H D I q
    . exact hx.p pins s σ H D I q
  . intro ρ σ H hd ls E fl hd' hR hL hm hQ
    unfold Ek at hm
    split at hm
    . next r e=>cases hm;exact .inl (HW h.r ρ σ H hd ls E fl hd' hR hL e hQ)
    . exact .inr (hx.r ρ σ H hd ls E fl hd' hR hL hm hQ)
theorem Q7(d:Dj mx mn):Dj (Ek mn mx) mn:=by
  constructor
  . intro ls hd d' x e
    unfold Ek at e
    split at e
    . next r q=>cases e;exact dj_norm.rt _ _ _ _ q
    . exact d.rt _ _ _ _ e
  . intro ls hd fl x e n
    unfold Ek at e
    split at e
    . next r q=>cases e;exact dj_norm.nx _ _ _ _ q n
    . exact d.nx _ _ _ _ e n
theorem Ml{ls:Ls}{hd:Hd}{Q:Fl->Hd->Prop}(d:Dj mx mn)(h:WS mx ls hd λ fl x=>∃ d,fl=.rt d/\Q fl x):WS (Ek mn mx) ls hd Q:=by
  obtain⟨fl,x,e,d',rfl,q⟩:=h
  have z:=d.rt _ _ _ _ e
  refine⟨_,x,?_,q⟩
  unfold Ek ED;rw[z];exact e
theorem K3{rest:List Stmt}:QXs C f K X rest FZ CQ:=⟨λ _ _ _ _ _ _ h=>h.elim,HX⟩
theorem Lx:Dj CQ mn:=⟨(λ _ _ _ _ e=>nomatch e),(λ _ _ _ _ e=>nomatch e)⟩
end
end L2
namespace T04
open PySem L2
noncomputable def top(i:Nat):Stmt:=PySem.Challenge.pw_benchdays_k04_costs_moved.main.body.getD i (.Pass ⟨0,0,0,0⟩)
noncomputable abbrev BY:Stmt:=top 11
theorem sc_steps_at:FnScope ["rows","t","told","begin","amount"] ["rows","t"] (AC BY):=⟨rfl,rfl,rfl,by decide +kernel,rfl,by decide +kernel,by decide +kernel⟩
@[reducible] noncomputable def m_steps_at:MS:=(AD (Ac 2 (mC (.int 0)))
    (AD (DR (DQ (A0 0)) (E9 2 (Bp (Av 3) (Bp (Av 4) EA)))
      (AD (Ab (AJ (mOp gGt (A0 3) (A0 1)))
      (AM (A0 2))
      AV)
    (Ac 2 (A0 4))))
    (AM (A0 2))))
noncomputable def F_steps_at:List D->Hd->Option (D × Hd):=mkF 2 5 m_steps_at
noncomputable abbrev Bl:Stmt:=top 12
theorem sc_cost_at:FnScope ["cost","t","word","above"] ["cost","t"] (AC Bl):=⟨rfl,rfl,rfl,by decide +kernel,rfl,by decide +kernel,by decide +kernel⟩
@[reducible] noncomputable def m_cost_at:MS:=(AD (Ac 2 (mOp gIx (A0 0) (mC (.int 0))))
    (AD (Ab (AJ (mOp gEq (A0 2) (mC (.str "steps"))))
      (AM (AF 0 F_steps_at (A2 (mOp gIx (A0 0) (mC (.int 1))) (A2 (A0 1) A8))))
      AV)
    (AD (Ab (AJ (mOp gEq (A0 2) (mC (.str "ends"))))
      (AM (mOp C0 (mOp gIx (A0 0) (mC (.int 1))) (A0 1)))
      AV)
    (AD (Ac 3 (mOp CV (A0 1) (mOp gIx (A0 0) (mC (.int 1)))))
    (AD (Ab (AJ (mOp gEq (A0 2) (mC (.str "late"))))
      (AM (A0 3))
      AV)
    (AD (Ab (AJ (mOp gLe (A0 3) (mC (.int 0))))
      (AM (mC (.int 0)))
      AV)
    (AD (Ab (AJ (mOp gEq (A0 2) (mC (.str "tardy"))))
      (AM (mOp C0 (mOp gIx (A0 0) (mC (.int 2))) (A0 3)))
      AV)
    (AM (mOp gIx (A0 0) (mC (.int 2)))))))))))
noncomputable def F_cost_at:List D->Hd->Option (D × Hd):=mkF 2 4 m_cost_at
noncomputable abbrev Ax:Stmt:=top 13
theorem ES:FnScope ["cost","days"] ["cost","days"] (AC Ax):=⟨rfl,rfl,rfl,by decide +kernel,rfl,by decide +kernel,by decide +kernel⟩
@[reducible] noncomputable def FG:MS:=(AD (Ab (mOr (AJ (mOp gEq (mOp gIx (A0 0) (mC (.int 0))) (mC (.str "ends")))) (AJ (mOp gEq (mOp gIx (A0 0) (mC (.int 0))) (mC (.str "steps")))))
      CQ
      AV)
    (AM (mOp Am (BB (A2 (mOp gIx (A0 0) (mC (.int 0))) (A2 (mOp Am (mOp gIx (A0 0) (mC (.int 1))) (A0 1)) A8))) (Ht (A0 0) (EC (mC (.int 2))) Cb))))
noncomputable def Az:List D->Hd->Option (D × Hd):=mkF 2 2 FG
@[reducible] noncomputable def Ec:MS:=(AD (Ab (mOr (AJ (mOp gEq (mOp gIx (A0 0) (mC (.int 0))) (mC (.str "ends")))) (AJ (mOp gEq (mOp gIx (A0 0) (mC (.int 0))) (mC (.str "steps")))))
      (AM (mC (.str "due")))
      (ED AV)) CQ)
noncomputable def BL:List D->Hd->Option (D × Hd):=mkX 2 2 Ec
theorem Eo:DjF BL Az:=KZ (IA (Mf IB dj_norm) Lx)
noncomputable abbrev B5:Stmt:=top 14
theorem EK:FnScope ["cost","days"] ["cost","days"] (AC B5):=⟨rfl,rfl,rfl,by decide +kernel,rfl,by decide +kernel,by decide +kernel⟩
@[reducible] noncomputable def Ee:MS:=(AD (Ab (AJ (mOp gEq (mOp gIx (A0 0) (mC (.int 0))) (mC (.str "ends"))))
      CQ
      AV)
    (AD (Ab (AJ (mOp gEq (mOp gIx (A0 0) (mC (.int 0))) (mC (.str "steps"))))
      (AM (BB (A2 (mC (.str "steps")) (A2 (GM Dy (CG 2 [1] (DQ (mOp gIx (A0 0) (mC (.int 1)))) (E9 2 (Bp (Av 0) (Bp (Av 1) EA))) Ct (BB (A2 (mOp Am (A0 0) (A0 2)) (A2 (A0 1) A8))))) A8))))
      AV)
    (AM (AF 0 Az (A2 (A0 0) (A2 (A0 1) A8))))))
noncomputable def Ay:List D->Hd->Option (D × Hd):=mkF 2 2 Ee
@[reducible] noncomputable def EM:MS:=(AD (Ab (AJ (mOp gEq (mOp gIx (A0 0) (mC (.int 0))) (mC (.str "ends"))))
      (AM (mC (.str "ends")))
      (ED AV))
    (AD (ED (Ab (AJ (mOp gEq (mOp gIx (A0 0) (mC (.int 0))) (mC (.str "steps"))))
      (AM (BB (A2 (mC (.str "steps")) (A2 (GM Dy (CG 2 [1] (DQ (mOp gIx (A0 0) (mC (.int 1)))) (E9 2 (Bp (Av 0) (Bp (Av 1) EA))) Ct (BB (A2 (mOp Am (A0 0) (A0 2)) (A2 (A0 1) A8))))) A8))))
      AV))
    (AM (AF 0 BL (A2 (A0 0) (A2 (A0 1) A8))))))
noncomputable def Bk:List D->Hd->Option (D × Hd):=mkX 2 2 EM
theorem Gm:DjF Bk Ay:=KZ (IA (Mf IB dj_norm) (IA dj_norm (Q6 (FU Eo))))
noncomputable abbrev Ch:Stmt:=top 16
theorem Mx:FnScope ["_law_script"] ["_law_script"] (AC Ch):=⟨rfl,rfl,rfl,by decide +kernel,rfl,by decide +kernel,by decide +kernel⟩
@[reducible] noncomputable def m_tape:MS:=(AM (Fq [((mC (.str "cells")),(Be (Eg (Hu (A0 0) Cb (EC (mC (.int 63))))))),((mC (.str "next")),(mC (.int 0))),((mC (.str "left")),(mC (.int 0))),((mC (.str "turn")),(mC (.int 0)))]))
noncomputable def F_tape:List D->Hd->Option (D × Hd):=mkF 1 1 m_tape
noncomputable abbrev C7:Stmt:=top 17
theorem sc_pick:FnScope ["_law_tape_here","_law_many","_law_found","_law_cells","_law_at","_law_turn","_law_cell","_law_mixed"] ["_law_tape_here","_law_many"] (AC C7):=⟨rfl,rfl,rfl,by decide +kernel,rfl,by decide +kernel,by decide +kernel⟩
@[reducible] noncomputable def m_pick:MS:=(AD (CT (A0 0) (mC (.str "turn")) (mOp Am (mOp BZ (A0 0) (mC (.str "turn"))) (mC (.int 1))))
    (AD (Ab (AJ (mOp gGt (mOp BZ (A0 0) (mC (.str "left"))) (mC (.int 0))))
      (AD (Ac 2 (mOp C1 (mOp BZ (A0 0) (mC (.str "left"))) (A0 1)))
    (AD (CT (A0 0) (mC (.str "left")) (mOp EG (mOp BZ (A0 0) (mC (.str "left"))) (A0 1)))
    (AM (A0 2))))
      AV)
    (AD (Fm 3 4 5 (A2 (mOp BZ (A0 0) (mC (.str "cells"))) (A2 (mOp BZ (A0 0) (mC (.str "next"))) (A2 (mOp BZ (A0 0) (mC (.str "turn"))) A8))))
    (AD (Ac 6 (mIf (AJ (Dd true (A0 3) (CS A8))) (mOp gIx (A0 3) (mOp C1 (A0 4) (mCB (f1 true EE) (A2 (A0 3) A8)))) (mC (.int 23))))
    (AD (CT (A0 0) (mC (.str "next")) (mOp Am (A0 4) (mC (.int 1))))
    (AD (Ab (GN (AJ (mOp gGe (A0 6) (mOp Lr (mC (.int 10)) (mC (.int 18))))) (AJ (mOp gLt (A0 4) (mCB (f1 true EE) (A2 (A0 3) A8)))))
      (AD (CT (A0 0) (mC (.str "left")) (mOp EG (A0 6) (A0 1)))
    (AM (mOp C1 (A0 6) (A0 1))))
      AV)
    (AD (Ac 7 (mOp C1 (mOp Am (mOp Am (mOp C1 (A0 6) (mC (.int 2147483587))) (mOp C0 (mC (.int 104729)) (A0 5))) (mC (.int 17))) (mC (.int 2147483629))))
    (AD (Ac 7 (mOp C1 (mOp Am (mOp C0 (A0 7) (A0 7)) (mOp C0 (mC (.int 48271)) (A0 5))) (mC (.int 2147483647))))
    (AD (Ac 7 (mOp C1 (mOp Am (mOp Am (mOp C0 (A0 7) (A0 7)) (mOp C0 (mC (.int 7919)) (A0 7))) (A0 5)) (mC (.int 2147483629))))
    (AM (mOp C1 (mOp EG (A0 7) (mC (.int 128))) (A0 1))))))))))))
noncomputable def F_pick:List D->Hd->Option (D × Hd):=mkF 2 8 m_pick
noncomputable abbrev Cj:Stmt:=top 18
theorem sc_cost:FnScope ["_law_tape_here","_law_way","_law_due_here","_law_weight","_law_start","_law_told_here","_law_rows","_law_k"] ["_law_tape_here","_law_way"] (AC Cj):=⟨rfl,rfl,rfl,by decide +kernel,rfl,by decide +kernel,by decide +kernel⟩
@[reducible] noncomputable def KI:MS:=(AD (Ac 2 (mIf (AJ (mOp gEq (AF 2 F_pick (A2 (A0 0) (A2 (mC (.int 4)) A8))) (mC (.int 0)))) (mOp CV (AF 2 F_pick (A2 (A0 0) (A2 (mC (.int 500)) A8))) (mC (.int 99))) (mOp CV (AF 2 F_pick (A2 (A0 0) (A2 (mC (.int 40)) A8))) (mC (.int 5)))))
    (AD (Ac 3 (AF 2 F_pick (A2 (A0 0) (A2 (mC (.int 10)) A8))))
    (AD (Ab (AJ (mOp gLt (A0 1) (mC (.int 4))))
      (AM (Eh (CS (A2 (BB (A2 (mC (.str "late")) (A2 (A0 2) A8))) (A2 (BB (A2 (mC (.str "tardy")) (A2 (A0 2) (A2 (A0 3) A8)))) (A2 (BB (A2 (mC (.str "miss")) (A2 (A0 2) (A2 (A0 3) A8)))) (A2 (BB (A2 (mC (.str "ends")) (A2 (A0 3) A8))) A8))))) (A0 1)))
      AV)
    (AD (FS [4,5] (A2 (mCB Fz (A2 (A0 2) (A2 (mC (.int 200)) A8))) (A2 (mC (.int 0)) A8)))
    (AD (Ac 6 (Be (CS A8)))
    (AD (DR (GL (A2 (mOp Am (mC (.int 1)) (AF 2 F_pick (A2 (A0 0) (A2 (mC (.int 5)) A8)))) A8)) (Av 7)
      (AD (Ac 4 (mOp Am (mOp Am (A0 4) (mC (.int 1))) (AF 2 F_pick (A2 (A0 0) (A2 (mC (.int 40)) A8)))))
    (AD (Ac 5 (mOp Am (A0 5) (AF 2 F_pick (A2 (A0 0) (A2 (mC (.int 20)) A8)))))
    (FA (mMt Cd (A0 6) (A2 (BB (A2 (A0 4) (A2 (A0 5) A8))) A8))))))
    (AM (BB (A2 (mC (.str "steps")) (A2 (mCB (f1 true Dy) (A2 (A0 6) A8)) A8))))))))))
noncomputable def E3:List D->Hd->Option (D × Hd):=mkF 2 8 KI
noncomputable abbrev Ci:Stmt:=top 19
theorem sc_days:FnScope ["_law_tape_here","_law_many"] ["_law_tape_here"] (AC Ci):=⟨rfl,rfl,rfl,by decide +kernel,rfl,by decide +kernel,by decide +kernel⟩
@[reducible] noncomputable def KH:MS:=(AD (Ac 1 (Eh (CS (A2 (mC (.int 0)) (A2 (mC (.int 1)) (A2 (AF 2 F_pick (A2 (A0 0) (A2 (mC (.int 30)) A8))) (A2 (AF 2 F_pick (A2 (A0 0) (A2 (mC (.int 1000)) A8))) A8))))) (AF 2 F_pick (A2 (A0 0) (A2 (mC (.int 4)) A8)))))
    (AM (mOp C0 (A0 1) (Eh (CS (A2 (mC (.int 1)) (A2 (Hv (mC (.int 1))) A8))) (AF 2 F_pick (A2 (A0 0) (A2 (mC (.int 2)) A8)))))))
noncomputable def Cr:List D->Hd->Option (D × Hd):=mkF 1 2 KH
noncomputable abbrev Cg:Stmt:=top 20
theorem sc_told:FnScope ["_law_way","_law_cost_here","_law_days_here","_law_found","e","_law_strange"] ["_law_way","_law_cost_here","_law_days_here"] (AC Cg):=⟨rfl,rfl,rfl,by decide +kernel,rfl,by decide +kernel,by decide +kernel⟩
@[reducible] noncomputable def KG:MS:=(AD (Ac 3 (BB (A2 (mC (.str "other")) A8)))
    (AD (Ef 4 5 3 (Ac 3 (BB (A2 (mC (.str "told")) (A2 (mIf (AJ (mOp gEq (A0 0) (mC (.int 0)))) (AF 0 Az (A2 (A0 1) (A2 (A0 2) A8))) (AF 0 Ay (A2 (A0 1) (A2 (A0 2) A8)))) A8))))
      (Ek (Ac 3 (BB (A2 (mC (.str "told")) (A2 (mIf (AJ (mOp gEq (A0 0) (mC (.int 0)))) (AF 0 Az (A2 (A0 1) (A2 (A0 2) A8))) (AF 0 Ay (A2 (A0 1) (A2 (A0 2) A8)))) A8)))) (AM (Fk (mC (.str "told")) (mIf (AJ (mOp gEq (A0 0) (mC (.int 0)))) (AF 0 BL (A2 (A0 1) (A2 (A0 2) A8))) (AF 0 Bk (A2 (A0 1) (A2 (A0 2) A8))))))))
    (AM (A0 3))))
noncomputable def DW:List D->Hd->Option (D × Hd):=mkF 3 6 KG
noncomputable abbrev DZ:Stmt:=top 21
theorem sc_due:FnScope ["_law_way","_law_cost_here","_law_days_here","_law_word","_law_rows","_law_start","_law_told_here","_law_parts"] ["_law_way","_law_cost_here","_law_days_here"] (AC DZ):=⟨rfl,rfl,rfl,by decide +kernel,rfl,by decide +kernel,by decide +kernel⟩
@[reducible] noncomputable def MZ:MS:=(AD (Ac 3 (mOp gIx (A0 1) (mC (.int 0))))
    (AD (Ab (AJ (mOp gEq (A0 3) (mC (.str "ends"))))
      (AM (BB (A2 (mC (.str "no")) (A2 (Eh (CS (A2 (mC (.str "due")) (A2 (mC (.str "ends")) A8))) (A0 0)) A8))))
      AV)
    (AD (Ab (AJ (mOp gEq (A0 3) (mC (.str "steps"))))
      (AD (Ac 4 (Be (CS A8)))
    (AD (DR (DQ (mOp gIx (A0 1) (mC (.int 1)))) (E9 2 (Bp (Av 5) (Bp (Av 6) EA)))
      (FA (mMt Cd (A0 4) (A2 (BB (A2 (mOp Am (A0 2) (A0 5)) (A2 (A0 6) A8))) A8))))
    (AM (mIf (AJ (mOp gEq (A0 0) (mC (.int 1)))) (BB (A2 (mC (.str "told")) (A2 (BB (A2 (mC (.str "steps")) (A2 (mCB (f1 true Dy) (A2 (A0 4) A8)) A8))) A8))) (BB (A2 (mC (.str "no")) (A2 (mC (.str "due")) A8)))))))
      AV)
    (AD (Ac 7 (Be (Fo (A0 1))))
    (AD (Fp (A0 7) (mC (.int 1)) (mOp Am (A0 2) (mOp gIx (A0 7) (mC (.int 1)))))
    (AM (BB (A2 (mC (.str "told")) (A2 (mCB (f1 true Dy) (A2 (A0 7) A8)) A8)))))))))
noncomputable def DB:List D->Hd->Option (D × Hd):=mkF 3 8 MZ
noncomputable abbrev CJ:Stmt:=top 22
theorem sc_marks:FnScope ["_law_cost_here","_law_some"] ["_law_cost_here"] (AC CJ):=⟨rfl,rfl,rfl,by decide +kernel,rfl,by decide +kernel,by decide +kernel⟩
@[reducible] noncomputable def Im:MS:=(AD (Ab (AJ (mOp gEq (mOp gIx (A0 0) (mC (.int 0))) (mC (.str "ends"))))
      (AM (Be (CS (A2 (mC (.int 0)) A8))))
      AV)
    (AD (Ac 1 (mIf (AJ (mOp gEq (mOp gIx (A0 0) (mC (.int 0))) (mC (.str "steps")))) (Be (CG 1 [] (DQ (mOp gIx (A0 0) (mC (.int 1)))) (Av 0) Ct (mOp gIx (A0 0) (mC (.int 0))))) (Be (CS (A2 (mOp gIx (A0 0) (mC (.int 1))) A8)))))
    (AM (Be (Ei (Be (Ei (Be (CG 1 [] (Df (A0 1)) (Av 0) Ct (mOp CV (A0 0) (mC (.int 1))))) (A0 1))) (Be (CG 1 [] (Df (A0 1)) (Av 0) Ct (mOp Am (A0 0) (mC (.int 1))))))))))
noncomputable def CM:List D->Hd->Option (D × Hd):=mkF 1 2 Im
noncomputable abbrev CI:Stmt:=top 23
theorem sc_right:FnScope ["_law_cost_here","_law_days_here","_law_more","_law_kept","_law_way","_law_due_here","_law_told_here","_law_again","_law_back","_law_t"] ["_law_cost_here","_law_days_here","_law_more"] (AC CI):=⟨rfl,rfl,rfl,by decide +kernel,rfl,by decide +kernel,by decide +kernel⟩
@[reducible] noncomputable def Il:MS:=(AD (Ac 3 (mCB C5 (A2 (A0 0) A8)))
    (AD (DR (DQ (BB (A2 (mC (.int 0)) (A2 (mC (.int 1)) (A2 (mC (.int 0)) (A2 (mC (.int 1)) A8)))))) (Av 4)
      (Fi (AD (Ac 5 (AF 0 DB (A2 (A0 4) (A2 (A0 0) (A2 (A0 1) A8)))))
    (AD (Ac 6 (AF 0 DW (A2 (A0 4) (A2 (A0 0) (A2 (A0 1) A8)))))
    (AD (Ab (mOr (AJ (mOp gNe (mCB C5 (A2 (A0 6) A8)) (mCB C5 (A2 (A0 5) A8)))) (AJ (mOp gNe (mCB C5 (A2 (A0 0) A8)) (A0 3))))
      (AM (mC (.bl false)))
      AV)
    (Ab (AJ (mOp gEq (mOp gIx (A0 6) (mC (.int 0))) (mC (.str "told"))))
      (AD (Ac 7 (AF 0 DW (A2 (A0 4) (A2 (mOp gIx (A0 6) (mC (.int 1))) (A2 (A0 2) A8)))))
    (AD (Ac 8 (AF 0 DW (A2 (A0 4) (A2 (mOp gIx (A0 6) (mC (.int 1))) (A2 (mOp CV (mC (.int 0)) (A0 1)) A8)))))
    (AD (Ab (mOr (AJ (mOp gNe (mCB C5 (A2 (A0 7) A8)) (mCB C5 (A2 (AF 0 DB (A2 (A0 4) (A2 (A0 0) (A2 (mOp Am (A0 1) (A0 2)) A8)))) A8)))) (AJ (mOp gNe (mCB C5 (A2 (A0 8) A8)) (mCB C5 (A2 (BB (A2 (mC (.str "told")) (A2 (A0 0) A8))) A8)))))
      (AM (mC (.bl false)))
      AV)
    (DR (Df (AF 0 CM (A2 (A0 0) A8))) (Av 9)
      (Ab (AJ (mOp gNe (mCB Dz (A2 (AF 0 F_cost_at (A2 (mOp gIx (A0 6) (mC (.int 1))) (A2 (mOp Am (A0 9) (A0 1)) A8))) A8)) (mCB Dz (A2 (AF 0 F_cost_at (A2 (A0 0) (A2 (A0 9) A8))) A8))))
      (AM (mC (.bl false)))
      AV)))))
      AV))))))
    (AM (mC (.bl true)))))
noncomputable def DG:List D->Hd->Option (D × Hd):=mkF 3 10 Il
noncomputable abbrev Ce:Stmt:=top 24
theorem sc_law:FnScope ["_law_script","_law_tape_here","_law_k","_law_cost_here"] ["_law_script"] (AC Ce):=⟨rfl,rfl,rfl,by decide +kernel,rfl,by decide +kernel,by decide +kernel⟩
@[reducible] noncomputable def MY:MS:=(AD (Ac 1 (Ej F_tape (A2 (A0 0) A8)))
    (AD (DR (GL (A2 (mC (.int 8)) A8)) (Av 2)
      (AD (Ac 3 (AF 2 E3 (A2 (A0 1) (A2 (mIf (AJ (mOp gLt (A0 2) (mC (.int 5)))) (A0 2) (AF 2 F_pick (A2 (A0 1) (A2 (mC (.int 5)) A8)))) A8))))
    (Ab (GK (GJ (AF 0 DG (A2 (A0 3) (A2 (AF 2 Cr (A2 (A0 1) A8)) (A2 (AF 2 Cr (A2 (A0 1) A8)) A8))))))
      (AM (mC (.bl false)))
      AV)))
    (AM (mC (.bl true)))))
noncomputable def F_law:List D->Hd->Option (D × Hd):=mkF 1 4 MY
section
variable{P:Program}{w:World}{K:PySem.W.Frag}{mg:Str->Option Value}{base:Heap}
theorem ok_steps_at{f_steps_at:Addr}{d_steps_at:FuncData}(DA:DefAt K mg "steps_at" BY f_steps_at d_steps_at ["rows","t"]) (B:BltA mg):FnOk P w K mg base CX0 1 f_steps_at d_steps_at ["rows","t"] (spF K 2 F_steps_at):=by
  refine BU (N:=["rows","t","told","begin","amount"]) (m:=m_steps_at) DA sc_steps_at λ cdv A outer s H E hr=>?_
  exact⟨_,(A7 K (AZ K (i:=2) sc_steps_at.nd rfl (by first|exact Or.inl rfl|exact Or.inr rfl) (A5 K))
    (A7 K (Ds K rfl (Du K (qv K 0)) (Ff K (n:=2) rfl (By K (BG K (i:=3) sc_steps_at.nd rfl (by first|exact Or.inl rfl|exact Or.inr rfl)) (By K (BG K (i:=4) sc_steps_at.nd rfl (by first|exact Or.inl rfl|exact Or.inr rfl)) (Ex K))))
      (A7 K (BJ K (AU K MW ML (qv K 3) (qv K 1))
      (AL K (AW K (qv K 2)))
      (Aj K))
    (AL K (AZ K (i:=2) sc_steps_at.nd rfl (by first|exact Or.inl rfl|exact Or.inr rfl) (qv K 4)))))
    (AL K (AW K (qv K 2)))))⟩
theorem ok_cost_at{Bm f_steps_at:Addr}{d_cost_at d_steps_at:FuncData}(DA:DefAt K mg "cost_at" Bl Bm d_cost_at ["cost","t"])(D_steps_at:DefAt K mg "steps_at" BY f_steps_at d_steps_at ["rows","t"])(G_steps_at:FnOk P w K mg base CX0 1 f_steps_at d_steps_at ["rows","t"] (spF K 2 F_steps_at))(B:BltA mg):FnOk P w K mg base CX0 2 Bm d_cost_at ["cost","t"] (spF K 2 F_cost_at):=by
  refine BU (N:=["cost","t","word","above"]) (m:=m_cost_at) DA sc_cost_at λ cdv A outer s H E hr=>?_
  exact⟨_,(A7 K (AZ K (i:=2) sc_cost_at.nd rfl (by first|exact Or.inl rfl|exact Or.inr rfl) (Ai K (qv K 0) (A5 K)))
    (A7 K (BJ K (AU K ((BC).or (Ah K hr.units)) (AG As At) (qv K 2) (AH K))
      (AL K (AW K (AN K 0 G_steps_at hr D_steps_at (A1 K (Ai K (qv K 0) (A5 K)) (A1 K (qv K 1) (A6 K))) AT)))
      (Aj K))
    (A7 K (BJ K (AU K ((BC).or (Ah K hr.units)) (AG As At) (qv K 2) (AH K))
      (AL K (AW K (AR K Cm Ck (Ai K (qv K 0) (A5 K)) (qv K 1))))
      (Aj K))
    (A7 K (AZ K (i:=3) sc_cost_at.nd rfl (by first|exact Or.inl rfl|exact Or.inr rfl) (AR K Eb EU (qv K 1) (Ai K (qv K 0) (A5 K))))
    (A7 K (BJ K (AU K ((BC).or (Ah K hr.units)) (AG As At) (qv K 2) (AH K))
      (AL K (AW K (qv K 3)))
      (Aj K))
    (A7 K (BJ K (AU K Qr Qh (qv K 3) (A5 K))
      (AL K (AW K (A5 K)))
      (Aj K))
    (A7 K (BJ K (AU K ((BC).or (Ah K hr.units)) (AG As At) (qv K 2) (AH K))
      (AL K (AW K (AR K Cm Ck (Ai K (qv K 0) (A5 K)) (qv K 3))))
      (Aj K))
    (AL K (AW K (Ai K (qv K 0) (A5 K)))))))))))⟩
theorem okx_later_due{f_later_due:Addr}{d_later_due:FuncData}(DA:DefAt K mg "later_due" Ax f_later_due d_later_due ["cost","days"]) {C Bc fI c1 c2 c3 c4 c5 c6 c7:Addr}{fdI:FuncData}(EX:ExcW P w K mg base C Bc fI c1 c2 c3 c4 c5 c6 c7 fdI) (B:BltA mg):FnOk P w K mg base (CXN C P w) 3 f_later_due d_later_due ["cost","days"] (spX C "word" K 2 BL):=by
  refine okX (N:=["cost","days"]) (m:=Ec) DA ES λ cdv A outer s H E hr=>?_
  exact⟨_,(FO (MM (QW.toT (Gx K (AU K ((BC).or (Ah K hr.units)) (AG As At) (Ai K (qv K 0) (A5 K)) (AH K)) (Fe K (AU K ((BC).or (Ah K hr.units)) (AG As At) (Ai K (qv K 0) (A5 K)) (AH K)))))
      (Ev (GX EX hr (AH K)))
      Ia) K3)⟩
theorem ok_later_due{f_later_due:Addr}{d_later_due:FuncData}(DA:DefAt K mg "later_due" Ax f_later_due d_later_due ["cost","days"]) (B:BltA mg):FnOk P w K mg base CX0 1 f_later_due d_later_due ["cost","days"] (spF K 2 Az):=by
  refine BU (N:=["cost","days"]) (m:=FG) DA ES λ cdv A outer s H E hr=>?_
  exact⟨_,(A7 K (BJ K (QW.toT (Gx K (AU K ((BC).or (Ah K hr.units)) (AG As At) (Ai K (qv K 0) (A5 K)) (AH K)) (Fe K (AU K ((BC).or (Ah K hr.units)) (AG As At) (Ai K (qv K 0) (A5 K)) (AH K)))))
      (AL K (Hg K))
      (Aj K))
    (AL K (AW K (AR K ((B3).or (Ae K)) (AG B2 An) (Au K (A1 K (Ai K (qv K 0) (A5 K)) (A1 K (AR K ((B3).or (Ae K)) (AG B2 An) (Ai K (qv K 0) (A5 K)) (qv K 1)) (A6 K)))) (P6 K (qv K 0) (Ic K (A5 K)) (Ie K))))))⟩
theorem okx_moved_cost{f_moved_cost f_later_due:Addr}{d_moved_cost d_later_due:FuncData}(DA:DefAt K mg "moved_cost" B5 f_moved_cost d_moved_cost ["cost","days"])(D_later_due:DefAt K mg "later_due" Ax f_later_due d_later_due ["cost","days"])(G_later_due:FnOk P w K mg base CX0 1 f_later_due d_later_due ["cost","days"] (spF K 2 Az)){C Bc fI c1 c2 c3 c4 c5 c6 c7:Addr}{fdI:FuncData}(EX:ExcW P w K mg base C Bc fI c1 c2 c3 c4 c5 c6 c7 fdI)(GX_later_due:FnOk P w K mg base (CXN C P w) 3 f_later_due d_later_due ["cost","days"] (spX C "word" K 2 BL))(B:BltA mg):FnOk P w K mg base (CXN C P w) 4 f_moved_cost d_moved_cost ["cost","days"] (spX C "word" K 2 Bk):=by
  refine okX (N:=["cost","days"]) (m:=EM) DA EK λ cdv A outer s H E hr=>?_
  exact⟨_,(FO (MM (AU K ((BC).or (Ah K hr.units)) (AG As At) (Ai K (qv K 0) (A5 K)) (AH K))
      (Ev (GX EX hr (AH K)))
      Ia)
    (FO (NM (BJ K (AU K ((BC).or (Ah K hr.units)) (AG As At) (Ai K (qv K 0) (A5 K)) (AH K))
      (AL K (AW K (Au K (A1 K (AH K) (A1 K (MP K (CC K) DN B.tuple L2.bt_tuple (Dt K (loc:=["begin","amount"]) (fr:=["days"]) (ix:=[1]) rfl ⟨rfl,by decide +kernel,rfl,rfl,rfl,by decide +kernel⟩ (Du K (Ai K (qv K 0) (A5 K))) (λ _ _ _=>(Ff K (n:=2) rfl (By K (BG K (i:=0) (show(["begin","amount","days"]:List Str).Nodup from by decide +kernel) rfl (by first|exact Or.inl rfl|exact Or.inr rfl)) (By K (BG K (i:=1) (show(["begin","amount","days"]:List Str).Nodup from by decide +kernel) rfl (by first|exact Or.inl rfl|exact Or.inr rfl)) (Ex K))))) (λ _ _ _=>(EZ K)) (λ _ _ _=>(Au K (A1 K (AR K ((B3).or (Ae K)) (AG B2 An) (qv K 0) (qv K 2)) (A1 K (qv K 1) (A6 K))))))) (A6 K))))))
      (Aj K)))
    (Ev (Oz (EY 0 GX_later_due hr D_later_due (A1 K (qv K 0) (A1 K (qv K 1) (A6 K))) GH)))))⟩
theorem ok_moved_cost{f_moved_cost f_later_due:Addr}{d_moved_cost d_later_due:FuncData}(DA:DefAt K mg "moved_cost" B5 f_moved_cost d_moved_cost ["cost","days"])(D_later_due:DefAt K mg "later_due" Ax f_later_due d_later_due ["cost","days"])(G_later_due:FnOk P w K mg base CX0 1 f_later_due d_later_due ["cost","days"] (spF K 2 Az))(B:BltA mg):FnOk P w K mg base CX0 2 f_moved_cost d_moved_cost ["cost","days"] (spF K 2 Ay):=by
  refine BU (N:=["cost","days"]) (m:=Ee) DA EK λ cdv A outer s H E hr=>?_
  exact⟨_,(A7 K (BJ K (AU K ((BC).or (Ah K hr.units)) (AG As At) (Ai K (qv K 0) (A5 K)) (AH K))
      (AL K (Hg K))
      (Aj K))
    (A7 K (BJ K (AU K ((BC).or (Ah K hr.units)) (AG As At) (Ai K (qv K 0) (A5 K)) (AH K))
      (AL K (AW K (Au K (A1 K (AH K) (A1 K (MP K (CC K) DN B.tuple L2.bt_tuple (Dt K (loc:=["begin","amount"]) (fr:=["days"]) (ix:=[1]) rfl ⟨rfl,by decide +kernel,rfl,rfl,rfl,by decide +kernel⟩ (Du K (Ai K (qv K 0) (A5 K))) (λ _ _ _=>(Ff K (n:=2) rfl (By K (BG K (i:=0) (show(["begin","amount","days"]:List Str).Nodup from by decide +kernel) rfl (by first|exact Or.inl rfl|exact Or.inr rfl)) (By K (BG K (i:=1) (show(["begin","amount","days"]:List Str).Nodup from by decide +kernel) rfl (by first|exact Or.inl rfl|exact Or.inr rfl)) (Ex K))))) (λ _ _ _=>(EZ K)) (λ _ _ _=>(Au K (A1 K (AR K ((B3).or (Ae K)) (AG B2 An) (qv K 0) (qv K 2)) (A1 K (qv K 1) (A6 K))))))) (A6 K))))))
      (Aj K))
    (AL K (AW K (AN K 0 G_later_due hr D_later_due (A1 K (qv K 0) (A1 K (qv K 1) (A6 K))) AT)))))⟩
theorem ok_tape{DS:Addr}{d_tape:FuncData}(DA:DefAt K mg "_law_tape" Ch DS d_tape ["_law_script"]) (B:BltA mg):FnOk P w K mg base CX0 1 DS d_tape ["_law_script"] (spF K 1 F_tape):=by
  refine BU (N:=["_law_script"]) (m:=m_tape) DA Mx λ cdv A outer s H E hr=>?_
  exact⟨_,(AL K (AW K (NT K (E7 K (AH K) (Bz K (LN K B.list (P5 K (qv K 0) (Ie K) (Ic K (A5 K))))) (E7 K (AH K) (A5 K) (E7 K (AH K) (A5 K) (E7 K (AH K) (A5 K) (NR K))))))))⟩
theorem ok_pick{Bj:Addr}{d_pick:FuncData}(DA:DefAt K mg "_law_pick" C7 Bj d_pick ["_law_tape_here","_law_many"]) (B:BltA mg):FnOk P w K mg base CX0 1 Bj d_pick ["_law_tape_here","_law_many"] (spF K 2 F_pick):=by
  refine BU (N:=["_law_tape_here","_law_many","_law_found","_law_cells","_law_at","_law_turn","_law_cell","_law_mixed"]) (m:=m_pick) DA sc_pick λ cdv A outer s H E hr=>?_
  exact⟨_,(A7 K (Ew K (CU hr) (qv K 0) (AH K) (AR K ((B3).or (Ae K)) (AG B2 An) (CZ K (CU hr) (qv K 0) (AH K)) (A5 K)))
    (A7 K (BJ K (AU K MW ML (CZ K (CU hr) (qv K 0) (AH K)) (A5 K))
      (A7 K (AZ K (i:=2) sc_pick.nd rfl (by first|exact Or.inl rfl|exact Or.inr rfl) (AR K Cn Cl (CZ K (CU hr) (qv K 0) (AH K)) (qv K 1)))
    (A7 K (Ew K (CU hr) (qv K 0) (AH K) (AR K GF GC (CZ K (CU hr) (qv K 0) (AH K)) (qv K 1)))
    (AL K (AW K (qv K 2)))))
      (Aj K))
    (A7 K (NP K (i:=3) (j:=4) (k:=5) rfl sc_pick.nd rfl rfl rfl rfl rfl rfl (A1 K (CZ K (CU hr) (qv K 0) (AH K)) (A1 K (CZ K (CU hr) (qv K 0) (AH K)) (A1 K (CZ K (CU hr) (qv K 0) (AH K)) (A6 K)))))
    (A7 K (AZ K (i:=6) sc_pick.nd rfl (by first|exact Or.inl rfl|exact Or.inr rfl) (CH K (NO K (PZ K hr.units) (qv K 3) (CO K (A6 K))) (Ai K (qv K 3) (AR K Cn Cl (qv K 4) (C2 K (Ge K) (Ha K1) B.len L2.bt_len (A1 K (qv K 3) (A6 K))))) (A5 K)))
    (A7 K (Ew K (CU hr) (qv K 0) (AH K) (AR K ((B3).or (Ae K)) (AG B2 An) (qv K 4) (A5 K)))
    (A7 K (BJ K (QW.toT (P1 K (AU K Qs Qj (qv K 6) (AR K PY Ov (A5 K) (A5 K))) (NN K (AU K JT JI (qv K 4) (C2 K (Ge K) (Ha K1) B.len L2.bt_len (A1 K (qv K 3) (A6 K)))))))
      (A7 K (Ew K (CU hr) (qv K 0) (AH K) (AR K GF GC (qv K 6) (qv K 1)))
    (AL K (AW K (AR K Cn Cl (qv K 6) (qv K 1)))))
      (Aj K))
    (A7 K (AZ K (i:=7) sc_pick.nd rfl (by first|exact Or.inl rfl|exact Or.inr rfl) (AR K Cn Cl (AR K ((B3).or (Ae K)) (AG B2 An) (AR K ((B3).or (Ae K)) (AG B2 An) (AR K Cn Cl (qv K 6) (A5 K)) (AR K Cm Ck (A5 K) (qv K 5))) (A5 K)) (A5 K)))
    (A7 K (AZ K (i:=7) sc_pick.nd rfl (by first|exact Or.inl rfl|exact Or.inr rfl) (AR K Cn Cl (AR K ((B3).or (Ae K)) (AG B2 An) (AR K Cm Ck (qv K 7) (qv K 7)) (AR K Cm Ck (A5 K) (qv K 5))) (A5 K)))
    (A7 K (AZ K (i:=7) sc_pick.nd rfl (by first|exact Or.inl rfl|exact Or.inr rfl) (AR K Cn Cl (AR K ((B3).or (Ae K)) (AG B2 An) (AR K ((B3).or (Ae K)) (AG B2 An) (AR K Cm Ck (qv K 7) (qv K 7)) (AR K Cm Ck (A5 K) (qv K 7))) (qv K 5)) (A5 K)))
    (AL K (AW K (AR K Cn Cl (AR K GF GC (qv K 7) (A5 K)) (qv K 1)))))))))))))⟩
theorem ok_cost{f_cost Bj:Addr}{d_cost d_pick:FuncData}(DA:DefAt K mg "_law_cost" Cj f_cost d_cost ["_law_tape_here","_law_way"])(D_pick:DefAt K mg "_law_pick" C7 Bj d_pick ["_law_tape_here","_law_many"])(G_pick:FnOk P w K mg base CX0 1 Bj d_pick ["_law_tape_here","_law_many"] (spF K 2 F_pick))(B:BltA mg):FnOk P w K mg base CX0 2 f_cost d_cost ["_law_tape_here","_law_way"] (spF K 2 E3):=by
  refine BU (N:=["_law_tape_here","_law_way","_law_due_here","_law_weight","_law_start","_law_told_here","_law_rows","_law_k"]) (m:=KI) DA sc_cost λ cdv A outer s H E hr=>?_
  exact⟨_,(A7 K (AZ K (i:=2) sc_cost.nd rfl (by first|exact Or.inl rfl|exact Or.inr rfl) (CH K (AU K ((BC).or (Ah K hr.units)) (AG As At) (AN K 2 G_pick hr D_pick (A1 K (qv K 0) (A1 K (A5 K) (A6 K))) AT) (A5 K)) (AR K Eb EU (AN K 2 G_pick hr D_pick (A1 K (qv K 0) (A1 K (A5 K) (A6 K))) AT) (A5 K)) (AR K Eb EU (AN K 2 G_pick hr D_pick (A1 K (qv K 0) (A1 K (A5 K) (A6 K))) AT) (A5 K))))
    (A7 K (AZ K (i:=3) sc_cost.nd rfl (by first|exact Or.inl rfl|exact Or.inr rfl) (AN K 2 G_pick hr D_pick (A1 K (qv K 0) (A1 K (A5 K) (A6 K))) AT))
    (A7 K (BJ K (AU K JT JI (qv K 1) (A5 K))
      (AL K (AW K (Fg K (CO K (A1 K (Au K (A1 K (AH K) (A1 K (qv K 2) (A6 K)))) (A1 K (Au K (A1 K (AH K) (A1 K (qv K 2) (A1 K (qv K 3) (A6 K))))) (A1 K (Au K (A1 K (AH K) (A1 K (qv K 2) (A1 K (qv K 3) (A6 K))))) (A1 K (Au K (A1 K (AH K) (A1 K (qv K 3) (A6 K)))) (A6 K)))))) (qv K 1))))
      (Aj K))
    (A7 K (P4 K (i:=4) (j:=5) rfl sc_cost.nd rfl rfl (by decide) rfl rfl (A1 K (C2 K (Ki rfl) NC B.min L2.bt_min (A1 K (qv K 2) (A1 K (A5 K) (A6 K)))) (A1 K (A5 K) (A6 K))))
    (A7 K (AZ K (i:=6) sc_cost.nd rfl (by first|exact Or.inl rfl|exact Or.inr rfl) (Bz K (CO K (A6 K))))
    (A7 K (Ds K rfl (Ig K B.range (A1 K (AR K ((B3).or (Ae K)) (AG B2 An) (A5 K) (AN K 2 G_pick hr D_pick (A1 K (qv K 0) (A1 K (A5 K) (A6 K))) AT)) (A6 K))) (BG K (i:=7) sc_cost.nd rfl (by first|exact Or.inl rfl|exact Or.inr rfl))
      (A7 K (AZ K (i:=4) sc_cost.nd rfl (by first|exact Or.inl rfl|exact Or.inr rfl) (AR K ((B3).or (Ae K)) (AG B2 An) (AR K ((B3).or (Ae K)) (AG B2 An) (qv K 4) (A5 K)) (AN K 2 G_pick hr D_pick (A1 K (qv K 0) (A1 K (A5 K) (A6 K))) AT)))
    (A7 K (AZ K (i:=5) sc_cost.nd rfl (by first|exact Or.inl rfl|exact Or.inr rfl) (AR K ((B3).or (Ae K)) (AG B2 An) (qv K 5) (AN K 2 G_pick hr D_pick (A1 K (qv K 0) (A1 K (A5 K) (A6 K))) AT)))
    (AL K (Ib K (MN K PySem.F.slot_list_append PySem.F.type_list_append Ed GW (qv K 6) (A1 K (Au K (A1 K (qv K 4) (A1 K (qv K 5) (A6 K)))) (A6 K))))))))
    (AL K (AW K (Au K (A1 K (AH K) (A1 K (JQ K (CC K) (Ha DN) B.tuple L2.bt_tuple (A1 K (qv K 6) (A6 K))) (A6 K))))))))))))⟩
theorem ok_days{f_days Bj:Addr}{d_days d_pick:FuncData}(DA:DefAt K mg "_law_days" Ci f_days d_days ["_law_tape_here"])(D_pick:DefAt K mg "_law_pick" C7 Bj d_pick ["_law_tape_here","_law_many"])(G_pick:FnOk P w K mg base CX0 1 Bj d_pick ["_law_tape_here","_law_many"] (spF K 2 F_pick))(B:BltA mg):FnOk P w K mg base CX0 2 f_days d_days ["_law_tape_here"] (spF K 1 Cr):=by
  refine BU (N:=["_law_tape_here","_law_many"]) (m:=KH) DA sc_days λ cdv A outer s H E hr=>?_
  exact⟨_,(A7 K (AZ K (i:=1) sc_days.nd rfl (by first|exact Or.inl rfl|exact Or.inr rfl) (Fg K (CO K (A1 K (A5 K) (A1 K (A5 K) (A1 K (AN K 2 G_pick hr D_pick (A1 K (qv K 0) (A1 K (A5 K) (A6 K))) AT) (A1 K (AN K 2 G_pick hr D_pick (A1 K (qv K 0) (A1 K (A5 K) (A6 K))) AT) (A6 K)))))) (AN K 2 G_pick hr D_pick (A1 K (qv K 0) (A1 K (A5 K) (A6 K))) AT)))
    (AL K (AW K (AR K Cm Ck (qv K 1) (Fg K (CO K (A1 K (A5 K) (A1 K (P7 K (A5 K)) (A6 K)))) (AN K 2 G_pick hr D_pick (A1 K (qv K 0) (A1 K (A5 K) (A6 K))) AT))))))⟩
theorem ok_told{f_told f_later_due f_moved_cost:Addr}{d_told d_later_due d_moved_cost:FuncData}(DA:DefAt K mg "_law_told" Cg f_told d_told ["_law_way","_law_cost_here","_law_days_here"])(D_later_due:DefAt K mg "later_due" Ax f_later_due d_later_due ["cost","days"])(G_later_due:FnOk P w K mg base CX0 1 f_later_due d_later_due ["cost","days"] (spF K 2 Az))(D_moved_cost:DefAt K mg "moved_cost" B5 f_moved_cost d_moved_cost ["cost","days"])(G_moved_cost:FnOk P w K mg base CX0 2 f_moved_cost d_moved_cost ["cost","days"] (spF K 2 Ay)){C Bc fI c1 c2 c3 c4 c5 c6 c7:Addr}{fdI:FuncData}(EX:ExcW P w K mg base C Bc fI c1 c2 c3 c4 c5 c6 c7 fdI)(GX_later_due:FnOk P w K mg base (CXN C P w) 3 f_later_due d_later_due ["cost","days"] (spX C "word" K 2 BL))(GX_moved_cost:FnOk P w K mg base (CXN C P w) 4 f_moved_cost d_moved_cost ["cost","days"] (spX C "word" K 2 Bk))(B:BltA mg):FnOk P w K mg base CX0 5 f_told d_told ["_law_way","_law_cost_here","_law_days_here"] (spF K 3 DW):=by
  refine BU (N:=["_law_way","_law_cost_here","_law_days_here","_law_found","e","_law_strange"]) (m:=KG) DA sc_told λ cdv A outer s H E hr=>?_
  exact⟨_,(A7 K (AZ K (i:=3) sc_told.nd rfl (by first|exact Or.inl rfl|exact Or.inr rfl) (Au K (A1 K (AH K) (A6 K))))
    (A7 K (P3 (ie:=4) (is:=5) (ifd:=3) EX B.isinstance (AL K (AZ K (i:=3) sc_told.nd rfl (by first|exact Or.inl rfl|exact Or.inr rfl) (Au K (A1 K (AH K) (A1 K (CH K (AU K ((BC).or (Ah K hr.units)) (AG As At) (qv K 0) (A5 K)) (AN K 0 G_later_due hr D_later_due (A1 K (qv K 1) (A1 K (qv K 2) (A6 K))) AT) (AN K 0 G_moved_cost hr D_moved_cost (A1 K (qv K 1) (A1 K (qv K 2) (A6 K))) AT)) (A6 K))))))
      (Ev (P0 (AZ K (i:=3) sc_told.nd rfl (by first|exact Or.inl rfl|exact Or.inr rfl) (Au K (A1 K (AH K) (A1 K (CH K (AU K ((BC).or (Ah K hr.units)) (AG As At) (qv K 0) (A5 K)) (AN K 0 G_later_due hr D_later_due (A1 K (qv K 1) (A1 K (qv K 2) (A6 K))) AT) (AN K 0 G_moved_cost hr D_moved_cost (A1 K (qv K 1) (A1 K (qv K 2) (A6 K))) AT)) (A6 K))))) (Oy (NK (K4 (AH K) (LK (NL (AU K ((BC).or (Ah K hr.units)) (AG As At) (qv K 0) (A5 K)) (EY 0 GX_later_due hr D_later_due (A1 K (qv K 1) (A1 K (qv K 2) (A6 K))) GH) (EY 0 GX_moved_cost hr D_moved_cost (A1 K (qv K 1) (A1 K (qv K 2) (A6 K))) GH)))))))) (by decide) (by decide) (by decide) sc_told.nd rfl rfl rfl)
    (AL K (AW K (qv K 3)))))⟩
theorem ok_due{f_due:Addr}{d_due:FuncData}(DA:DefAt K mg "_law_due" DZ f_due d_due ["_law_way","_law_cost_here","_law_days_here"]) (B:BltA mg):FnOk P w K mg base CX0 1 f_due d_due ["_law_way","_law_cost_here","_law_days_here"] (spF K 3 DB):=by
  refine BU (N:=["_law_way","_law_cost_here","_law_days_here","_law_word","_law_rows","_law_start","_law_told_here","_law_parts"]) (m:=MZ) DA sc_due λ cdv A outer s H E hr=>?_
  exact⟨_,(A7 K (AZ K (i:=3) sc_due.nd rfl (by first|exact Or.inl rfl|exact Or.inr rfl) (Ai K (qv K 1) (A5 K)))
    (A7 K (BJ K (AU K ((BC).or (Ah K hr.units)) (AG As At) (qv K 3) (AH K))
      (AL K (AW K (Au K (A1 K (AH K) (A1 K (Fg K (CO K (A1 K (AH K) (A1 K (AH K) (A6 K)))) (qv K 0)) (A6 K))))))
      (Aj K))
    (A7 K (BJ K (AU K ((BC).or (Ah K hr.units)) (AG As At) (qv K 3) (AH K))
      (A7 K (AZ K (i:=4) sc_due.nd rfl (by first|exact Or.inl rfl|exact Or.inr rfl) (Bz K (CO K (A6 K))))
    (A7 K (Ds K rfl (Du K (Ai K (qv K 1) (A5 K))) (Ff K (n:=2) rfl (By K (BG K (i:=5) sc_due.nd rfl (by first|exact Or.inl rfl|exact Or.inr rfl)) (By K (BG K (i:=6) sc_due.nd rfl (by first|exact Or.inl rfl|exact Or.inr rfl)) (Ex K))))
      (AL K (Ib K (MN K PySem.F.slot_list_append PySem.F.type_list_append Ed GW (qv K 4) (A1 K (Au K (A1 K (AR K ((B3).or (Ae K)) (AG B2 An) (qv K 2) (qv K 5)) (A1 K (qv K 6) (A6 K)))) (A6 K))))))
    (AL K (AW K (CH K (AU K ((BC).or (Ah K hr.units)) (AG As At) (qv K 0) (A5 K)) (Au K (A1 K (AH K) (A1 K (Au K (A1 K (AH K) (A1 K (JQ K (CC K) (Ha DN) B.tuple L2.bt_tuple (A1 K (qv K 4) (A6 K))) (A6 K)))) (A6 K)))) (Au K (A1 K (AH K) (A1 K (AH K) (A6 K)))))))))
      (Aj K))
    (A7 K (AZ K (i:=7) sc_due.nd rfl (by first|exact Or.inl rfl|exact Or.inr rfl) (Bz K (NS K B.list (qv K 1))))
    (A7 K (NQ K (qv K 7) (A5 K) (AR K ((B3).or (Ae K)) (AG B2 An) (qv K 2) (Ai K (qv K 7) (A5 K))))
    (AL K (AW K (Au K (A1 K (AH K) (A1 K (JQ K (CC K) (Ha DN) B.tuple L2.bt_tuple (A1 K (qv K 7) (A6 K))) (A6 K)))))))))))⟩
theorem ok_marks{f_marks:Addr}{d_marks:FuncData}(DA:DefAt K mg "_law_marks" CJ f_marks d_marks ["_law_cost_here"]) (B:BltA mg):FnOk P w K mg base CX0 1 f_marks d_marks ["_law_cost_here"] (spF K 1 CM):=by
  refine BU (N:=["_law_cost_here","_law_some"]) (m:=Im) DA sc_marks λ cdv A outer s H E hr=>?_
  exact⟨_,(A7 K (BJ K (AU K ((BC).or (Ah K hr.units)) (AG As At) (Ai K (qv K 0) (A5 K)) (AH K))
      (AL K (AW K (Bz K (CO K (A1 K (A5 K) (A6 K))))))
      (Aj K))
    (A7 K (AZ K (i:=1) sc_marks.nd rfl (by first|exact Or.inl rfl|exact Or.inr rfl) (CH K (AU K ((BC).or (Ah K hr.units)) (AG As At) (Ai K (qv K 0) (A5 K)) (AH K)) (Bz K (Dt K (loc:=["_law_row"]) (fr:=[]) (ix:=[]) rfl ⟨rfl,by decide +kernel,rfl,rfl,rfl,by decide +kernel⟩ (Du K (Ai K (qv K 0) (A5 K))) (λ _ _ _=>(BG K (i:=0) (show(["_law_row"]:List Str).Nodup from by decide +kernel) rfl (by first|exact Or.inl rfl|exact Or.inr rfl))) (λ _ _ _=>(EZ K)) (λ _ _ _=>(Ai K (qv K 0) (A5 K))))) (Bz K (CO K (A1 K (Ai K (qv K 0) (A5 K)) (A6 K))))))
    (AL K (AW K (Bz K (K6 K (Bz K (K6 K (Bz K (Dt K (loc:=["_law_one"]) (fr:=[]) (ix:=[]) rfl ⟨rfl,by decide +kernel,rfl,rfl,rfl,by decide +kernel⟩ (GD K (qv K 1)) (λ _ _ _=>(BG K (i:=0) (show(["_law_one"]:List Str).Nodup from by decide +kernel) rfl (by first|exact Or.inl rfl|exact Or.inr rfl))) (λ _ _ _=>(EZ K)) (λ _ _ _=>(AR K Eb EU (qv K 0) (A5 K))))) (qv K 1))) (Bz K (Dt K (loc:=["_law_one"]) (fr:=[]) (ix:=[]) rfl ⟨rfl,by decide +kernel,rfl,rfl,rfl,by decide +kernel⟩ (GD K (qv K 1)) (λ _ _ _=>(BG K (i:=0) (show(["_law_one"]:List Str).Nodup from by decide +kernel) rfl (by first|exact Or.inl rfl|exact Or.inr rfl))) (λ _ _ _=>(EZ K)) (λ _ _ _=>(AR K ((B3).or (Ae K)) (AG B2 An) (qv K 0) (A5 K)))))))))))⟩
theorem ok_right{f_right Bm f_told f_due f_marks:Addr}{d_right d_cost_at d_told d_due d_marks:FuncData}(DA:DefAt K mg "_law_right" CI f_right d_right ["_law_cost_here","_law_days_here","_law_more"])(D_cost_at:DefAt K mg "cost_at" Bl Bm d_cost_at ["cost","t"])(G_cost_at:FnOk P w K mg base CX0 2 Bm d_cost_at ["cost","t"] (spF K 2 F_cost_at))(D_told:DefAt K mg "_law_told" Cg f_told d_told ["_law_way","_law_cost_here","_law_days_here"])(G_told:FnOk P w K mg base CX0 5 f_told d_told ["_law_way","_law_cost_here","_law_days_here"] (spF K 3 DW))(D_due:DefAt K mg "_law_due" DZ f_due d_due ["_law_way","_law_cost_here","_law_days_here"])(G_due:FnOk P w K mg base CX0 1 f_due d_due ["_law_way","_law_cost_here","_law_days_here"] (spF K 3 DB))(D_marks:DefAt K mg "_law_marks" CJ f_marks d_marks ["_law_cost_here"])(G_marks:FnOk P w K mg base CX0 1 f_marks d_marks ["_law_cost_here"] (spF K 1 CM))(B:BltA mg):FnOk P w K mg base CX0 6 f_right d_right ["_law_cost_here","_law_days_here","_law_more"] (spF K 3 DG):=by
  refine BU (N:=["_law_cost_here","_law_days_here","_law_more","_law_kept","_law_way","_law_due_here","_law_told_here","_law_again","_law_back","_law_t"]) (m:=Il) DA sc_right λ cdv A outer s H E hr=>?_
  exact⟨_,(A7 K (AZ K (i:=3) sc_right.nd rfl (by first|exact Or.inl rfl|exact Or.inr rfl) (C2 K (BS K hr.gd hr.units) CK B.repr L2.bt_repr (A1 K (qv K 0) (A6 K))))
    (A7 K (Ds K rfl (Du K (Au K (A1 K (A5 K) (A1 K (A5 K) (A1 K (A5 K) (A1 K (A5 K) (A6 K))))))) (BG K (i:=4) sc_right.nd rfl (by first|exact Or.inl rfl|exact Or.inr rfl))
      (K5 K (A7 K (AZ K (i:=5) sc_right.nd rfl (by first|exact Or.inl rfl|exact Or.inr rfl) (AN K 0 G_due hr D_due (A1 K (qv K 4) (A1 K (qv K 0) (A1 K (qv K 1) (A6 K)))) AT))
    (A7 K (AZ K (i:=6) sc_right.nd rfl (by first|exact Or.inl rfl|exact Or.inr rfl) (AN K 0 G_told hr D_told (A1 K (qv K 4) (A1 K (qv K 0) (A1 K (qv K 1) (A6 K)))) AT))
    (A7 K (BJ K (QW.toT (Gx K (AU K ((Fh).or (DD K hr.units)) (AG EV EW) (C2 K (BS K hr.gd hr.units) CK B.repr L2.bt_repr (A1 K (qv K 6) (A6 K))) (C2 K (BS K hr.gd hr.units) CK B.repr L2.bt_repr (A1 K (qv K 5) (A6 K)))) (Fe K (AU K ((Fh).or (DD K hr.units)) (AG EV EW) (C2 K (BS K hr.gd hr.units) CK B.repr L2.bt_repr (A1 K (qv K 0) (A6 K))) (qv K 3)))))
      (AL K (AW K (Ey K)))
      (Aj K))
    (AL K (BJ K (AU K ((BC).or (Ah K hr.units)) (AG As At) (Ai K (qv K 6) (A5 K)) (AH K))
      (A7 K (AZ K (i:=7) sc_right.nd rfl (by first|exact Or.inl rfl|exact Or.inr rfl) (AN K 0 G_told hr D_told (A1 K (qv K 4) (A1 K (Ai K (qv K 6) (A5 K)) (A1 K (qv K 2) (A6 K)))) AT))
    (A7 K (AZ K (i:=8) sc_right.nd rfl (by first|exact Or.inl rfl|exact Or.inr rfl) (AN K 0 G_told hr D_told (A1 K (qv K 4) (A1 K (Ai K (qv K 6) (A5 K)) (A1 K (AR K Eb EU (A5 K) (qv K 1)) (A6 K)))) AT))
    (A7 K (BJ K (QW.toT (Gx K (AU K ((Fh).or (DD K hr.units)) (AG EV EW) (C2 K (BS K hr.gd hr.units) CK B.repr L2.bt_repr (A1 K (qv K 7) (A6 K))) (C2 K (BS K hr.gd hr.units) CK B.repr L2.bt_repr (A1 K (AN K 0 G_due hr D_due (A1 K (qv K 4) (A1 K (qv K 0) (A1 K (AR K ((B3).or (Ae K)) (AG B2 An) (qv K 1) (qv K 2)) (A6 K)))) AT) (A6 K)))) (Fe K (AU K ((Fh).or (DD K hr.units)) (AG EV EW) (C2 K (BS K hr.gd hr.units) CK B.repr L2.bt_repr (A1 K (qv K 8) (A6 K))) (C2 K (BS K hr.gd hr.units) CK B.repr L2.bt_repr (A1 K (Au K (A1 K (AH K) (A1 K (qv K 0) (A6 K)))) (A6 K)))))))
      (AL K (AW K (Ey K)))
      (Aj K))
    (AL K (Ds K rfl (GD K (AN K 0 G_marks hr D_marks (A1 K (qv K 0) (A6 K)) AT)) (BG K (i:=9) sc_right.nd rfl (by first|exact Or.inl rfl|exact Or.inr rfl))
      (AL K (BJ K (AU K ((Fh).or (DD K hr.units)) (AG EV EW) (C2 K G4 HZ B.repr L2.bt_repr (A1 K (AN K 0 G_cost_at hr D_cost_at (A1 K (Ai K (qv K 6) (A5 K)) (A1 K (AR K ((B3).or (Ae K)) (AG B2 An) (qv K 9) (qv K 1)) (A6 K))) AT) (A6 K))) (C2 K G4 HZ B.repr L2.bt_repr (A1 K (AN K 0 G_cost_at hr D_cost_at (A1 K (qv K 0) (A1 K (qv K 9) (A6 K))) AT) (A6 K))))
      (AL K (AW K (Ey K)))
      (Aj K))))))))
      (Aj K))))))))
    (AL K (AW K (Ey K)))))⟩
theorem ok_law{f_law DS Bj f_cost f_days f_right:Addr}{d_law d_tape d_pick d_cost d_days d_right:FuncData}(DA:DefAt K mg "law" Ce f_law d_law ["_law_script"])(D_tape:DefAt K mg "_law_tape" Ch DS d_tape ["_law_script"])(G_tape:FnOk P w K mg base CX0 1 DS d_tape ["_law_script"] (spF K 1 F_tape))(D_pick:DefAt K mg "_law_pick" C7 Bj d_pick ["_law_tape_here","_law_many"])(G_pick:FnOk P w K mg base CX0 1 Bj d_pick ["_law_tape_here","_law_many"] (spF K 2 F_pick))(D_cost:DefAt K mg "_law_cost" Cj f_cost d_cost ["_law_tape_here","_law_way"])(G_cost:FnOk P w K mg base CX0 2 f_cost d_cost ["_law_tape_here","_law_way"] (spF K 2 E3))(D_days:DefAt K mg "_law_days" Ci f_days d_days ["_law_tape_here"])(G_days:FnOk P w K mg base CX0 2 f_days d_days ["_law_tape_here"] (spF K 1 Cr))(D_right:DefAt K mg "_law_right" CI f_right d_right ["_law_cost_here","_law_days_here","_law_more"])(G_right:FnOk P w K mg base CX0 6 f_right d_right ["_law_cost_here","_law_days_here","_law_more"] (spF K 3 DG))(B:BltA mg):FnOk P w K mg base CX0 7 f_law d_law ["_law_script"] (spF K 1 F_law):=by
  refine BU (N:=["_law_script","_law_tape_here","_law_k","_law_cost_here"]) (m:=MY) DA sc_law λ cdv A outer s H E hr=>?_
  exact⟨_,(A7 K (AZ K (i:=1) sc_law.nd rfl (by first|exact Or.inl rfl|exact Or.inr rfl) (LO K G_tape hr D_tape (A1 K (qv K 0) (A6 K)) AT))
    (A7 K (Ds K rfl (Ig K B.range (A1 K (A5 K) (A6 K))) (BG K (i:=2) sc_law.nd rfl (by first|exact Or.inl rfl|exact Or.inr rfl))
      (A7 K (AZ K (i:=3) sc_law.nd rfl (by first|exact Or.inl rfl|exact Or.inr rfl) (AN K 2 G_cost hr D_cost (A1 K (qv K 1) (A1 K (CH K (AU K JT JI (qv K 2) (A5 K)) (qv K 2) (AN K 2 G_pick hr D_pick (A1 K (qv K 1) (A1 K (A5 K) (A6 K))) AT)) (A6 K))) AT))
    (AL K (BJ K (P2 K (LM K (AN K 0 G_right hr D_right (A1 K (qv K 3) (A1 K (AN K 2 G_days hr D_days (A1 K (qv K 1) (A6 K)) AT) (A1 K (AN K 2 G_days hr D_days (A1 K (qv K 1) (A6 K)) AT) (A6 K)))) AT)))
      (AL K (AW K (Ey K)))
      (Aj K)))))
    (AL K (AW K (Ey K)))))⟩
noncomputable abbrev Dq:Stmt:=OA (top 3) 0
theorem My:FnScope ["self","word"] ["self","word"] (AC Dq):=⟨rfl,rfl,rfl,by decide +kernel,rfl,by decide +kernel,by decide +kernel⟩
theorem ok_ini{C fI fa:Addr}{fd:FuncData}(F:Fun K "__init__" "NoRule.__init__" Dq fa fd)(c:XC K C fI)(n:Cq K C "word"):FnOk P w K mg base CX0 1 fa fd ["self","word"] (spI C "word"):=Nv F My rfl c n (λ _ _ _ _ _ _=>rfl) (Or.inl rfl) (Or.inl rfl) (by decide) (by decide)
end
end T04
namespace L2
open PySem PySem.Spec PyProof.Rows
section
variable{hd:Hd}{QE:D->Hd->Prop}{d:D}
theorem Mm{p:PyData}(e:pyD hd d=some p)(ok:C9 p)(q:QE (.im (.str p.shown)) hd):WP (C5 [d] hd) QE:=⟨_,_,by simp[C5,e,ok],q⟩
theorem Bv{i:I}(ok:C9 i.py)(q:QE (.im (.str i.py.shown)) hd):WP (C5 [.im i] hd) QE:=Mm rfl ok q
end
end L2
namespace T04
open PySem L2 Bd
noncomputable def mv(n:Int):Cost->Cost
  | .late d=>.late (d + n)
  | .tardy d w=>.tardy (d + n) w
  | .miss d w=>.miss (d + n) w
  | .ends w=>.ends w
  | .steps rows=>.steps (rows.map λ r=>(r.1 + n,r.2))
noncomputable def cB(b:Int):Cost->Prop
  | .late d=>-b <= d/\d <= b
  | .tardy d w=>(-b <= d/\d <= b)/\0 <= w/\w <= 9
  | .miss d w=>(-b <= d/\d <= b)/\0 <= w/\w <= 9
  | .ends w=>0 <= w/\w <= 9
  | .steps rows=>rows.length <= 5/\∀ r ∈ rows,(-b <= r.1/\r.1 <= b)/\0 <= r.2/\r.2 <= 1000
theorem Pf{b n k:Int}{c:Cost}(h:cB b c)(h1:-k <= n)(h2:n <= k):cB (b + k) (mv n c):=by
  cases c with
  | late d=>exact⟨by have:=h.1;omega,by have:=h.2;omega⟩
  | tardy d w=>exact⟨⟨by have:=h.1.1;omega,by have:=h.1.2;omega⟩,h.2⟩
  | miss d w=>exact⟨⟨by have:=h.1.1;omega,by have:=h.1.2;omega⟩,h.2⟩
  | ends w=>exact h
  | steps rows=>
    refine⟨by simpa using h.1,λ r hr=>?_⟩
    obtain⟨q,hq,rfl⟩:=List.mem_map.mp hr
    have:=h.2 q hq
    exact⟨⟨by show -(b + k) <= q.1 + n;omega,by show q.1 + n <= b + k;omega⟩,this.2⟩
theorem MX(n k:Int)(c:Cost):mv k (mv n c)=mv (n + k) c:=by
  cases c <;> simp[mv,Int.add_assoc]
theorem Ny(n:Int)(c:Cost):mv (0 - n) (mv n c)=c:=by
  rw[MX]
  have e:n + (0 - n)=0:=by omega
  rw[e]
  cases c <;> simp[mv]
theorem HN(n t:Int):∀ (rows:List (Int × Int)) (z:Int),BT (t + n) (rows.map λ r=>(r.1 + n,r.2)) z=BT t rows z
  | [],z=>rfl
  | r :: rows,z=>by
    simp only[List.map_cons,BT]
    by_cases h:r.1 > t
    . rw[if_pos (by omega),if_pos h]
    . rw[if_neg (by omega),if_neg h];exact HN n t rows _
noncomputable def Bq:Cost->Prop
  | .late _=>True
  | .tardy _ _=>True
  | .miss _ _=>True
  | _=>False
theorem RU(n t:Int)(c:Cost)(h:∀ w,c ≠ .ends w):(mv n c).at (t + n)=c.at t:=by
  cases c with
  | late d=>simp only[mv,Cost.at];omega
  | tardy d w=>
    have e:t + n - (d + n)=t - d:=by omega
    simp only[mv,Cost.at,e]
  | miss d w=>
    have e:t + n - (d + n)=t - d:=by omega
    simp only[mv,Cost.at,e]
  | ends w=>exact absurd rfl (h w)
  | steps rows=>simp only[mv,Cost.at];exact HN n t rows 0
theorem okS{x:Str}(h:x="told" ∨ x="no" ∨ x="due" ∨ x="ends"):OkP 40 0 (I.py (.str x)):=by
  rw[I.py]
  rcases h with rfl|rfl|rfl|rfl <;> exact⟨by decide +kernel,by decide +kernel,by decide +kernel,by decide +kernel,by decide +kernel⟩
theorem Pe{b:Int}{c:Cost}(h:cB b c)(hb:b <= 100000):OkP 1263 3 (I.py (AS c)):=by
  have s1:∀ {x:Str},(x="late" ∨ x="tardy" ∨ x="miss" ∨ x="ends" ∨ x="steps")->OkP 420 2 (I.py (.str x)):=λ h=>(Nu _ h).mono (by omega) (by omega)
  have i1:∀ {i:Int},sm i->OkP 420 2 (I.py (.int i)):=λ h=>(GG h).mono (by omega) (by omega)
  cases c with
  | late d=>
    refine(C3 (w:=420) (dp:=2) (is:=[.str "late",.int d]) λ i hi=>?_).mono (by simp) (by omega)
    simp at hi
    rcases hi with rfl|rfl
    . exact s1 (by simp)
    . exact i1 ⟨by have:=h.1;omega,by have:=h.2;omega⟩
  | tardy d w=>
    refine(C3 (w:=420) (dp:=2) (is:=[.str "tardy",.int d,.int w]) λ i hi=>?_).mono (by simp) (by omega)
    obtain⟨⟨h1,h2⟩,h3,h4⟩:=h
    simp at hi
    rcases hi with rfl|rfl|rfl
    . exact s1 (by simp)
    . exact i1 ⟨by omega,by omega⟩
    . exact i1 ⟨by omega,by omega⟩
  | miss d w=>
    refine(C3 (w:=420) (dp:=2) (is:=[.str "miss",.int d,.int w]) λ i hi=>?_).mono (by simp) (by omega)
    obtain⟨⟨h1,h2⟩,h3,h4⟩:=h
    simp at hi
    rcases hi with rfl|rfl|rfl
    . exact s1 (by simp)
    . exact i1 ⟨by omega,by omega⟩
    . exact i1 ⟨by omega,by omega⟩
  | ends w=>
    refine(C3 (w:=420) (dp:=2) (is:=[.str "ends",.int w]) λ i hi=>?_).mono (by simp) (by omega)
    simp at hi
    rcases hi with rfl|rfl
    . exact s1 (by simp)
    . exact i1 ⟨by have:=h.1;omega,by have:=h.2;omega⟩
  | steps rows=>
    have hrow:OkP 420 2 (I.py (.tup (rows.map BW))):=by
      refine OkP.mono (w':=420) (dp':=2) (C3 (w:=82) (dp:=1) (is:=rows.map BW) λ i hi=>?_) (by have:=h.1;simp;omega) (by omega)
      obtain⟨r,hr1,rfl⟩:=List.mem_map.mp hi
      have:=h.2 r hr1
      refine(C3 (w:=40) (dp:=0) (is:=[.int r.1,.int r.2]) λ j hj=>?_).mono (by simp) (by omega)
      simp at hj
      rcases hj with rfl|rfl
      . exact GG ⟨by omega,by omega⟩
      . exact GG ⟨by omega,by omega⟩
    refine OkP.mono (w':=1263) (dp':=3) (C3 (w:=420) (dp:=2) (is:=[.str "steps",.tup (rows.map BW)]) λ i hi=>?_) (by simp) (by omega)
    simp at hi
    rcases hi with rfl|rfl
    . exact s1 (by simp)
    . exact hrow
theorem Og{b:Int}{c:Cost}(h:cB b c)(hb:b <= 100000):C9 (I.py (AS c)):=(Pe h hb).repr (by cases c <;> rfl) (by omega) (by omega)
noncomputable def tdI(c:Cost):I:=.tup [.str "told",AS c]
noncomputable def noI(x:Str):I:=.tup [.str "no",.str x]
theorem Qd{b:Int}{c:Cost}(h:cB b c)(hb:b <= 100000):C9 (I.py (tdI c)):=by
  refine((C3 (w:=1263) (dp:=3) (is:=[.str "told",AS c]) λ i hi=>?_).mono (w':=3000) (by simp) (Nat.le_refl 4)).repr rfl (by omega) (by omega)
  simp at hi
  rcases hi with rfl|rfl
  . exact(okS (by simp)).mono (by omega) (by omega)
  . exact Pe h hb
theorem Qe{x:Str}(h:x="due" ∨ x="ends"):C9 (I.py (noI x)):=by
  refine((C3 (w:=1263) (dp:=3) (is:=[.str "no",.str x]) λ i hi=>?_).mono (w':=3000) (by simp) (Nat.le_refl 4)).repr rfl (by omega) (by omega)
  simp at hi
  rcases hi with rfl|rfl
  . exact(okS (by simp)).mono (by omega) (by omega)
  . exact(okS (by rcases h with h|h <;> simp[h])).mono (by omega) (by omega)
theorem FC{w:Str}{due d:Int}{rest:List I}(h1:¬ w="ends")(h2:¬ w="steps")(hl:rest.length <= 1):WF Az [.im (.tup (.str w :: .int due :: rest)),.im (.int d)] [] λ r x=>r=.im (.tup (.str w :: .int (due + d) :: rest)):=by
  unfold Az
  refine Bu rfl ?_
  refine AK (Al (Er (AO (AA (AA (A4 rfl (A9 (AY rfl (BV _ _) (A9 (Ap ⟨_,rfl,?_⟩))))))))))
  rw[if_neg (by simpa using h1)]
  refine AO (AA (AA (A4 rfl (A9 (AY rfl (BV _ _) (A9 (Ap ⟨_,rfl,?_⟩)))))))
  refine⟨(λ q=>absurd (of_decide_eq_true q) h2),λ _=>B1 (AE ?_)⟩
  refine Ar (AA (Aw (A3 (AA (A4 rfl (A9 (AY rfl (BV _ _) ?_)))))))
  refine A3 (AA (AA (A4 rfl (A9 (AY rfl (DV _ _ _) (A4 rfl (Bh (AB ⟨B4,?_⟩))))))))
  refine OR (A4 rfl (Mn (A9 ⟨_,rfl,QR ⟨_,rfl,?_,?_⟩⟩)))
  . rintro⟨q,_⟩
    simp[HT.sIx]at q
  have ct:DU ((I.str w :: .int due :: rest).map D.im) (some 2) none=rest.map D.im:=by
    simp[DU,HT.sIx]
    exact List.take_of_length_le (by simp)
  rw[ct,Ca]
  have cat:Mg [D.im (.str w),D.im (.int (due + d))] (rest.map D.im):=⟨by simp,BH (by simp;omega)⟩
  refine WP.eq (z:=.im (.tup (.str w :: .int (due + d) :: rest))) (h:=[]) ?_ rfl
  show(match Jg (.im (.tup [.str w,.int (due + d)])) (.im (.tup rest)) []with|some z=>some z|none=>Fw (.im (.tup [.str w,.int (due + d)])) (.im (.tup rest)) [])=_
  rw[show Jg (.im (.tup [.str w,.int (due + d)])) (.im (.tup rest)) []=none from rfl]
  unfold Fw
  rw[show Ag (.im (.tup [.str w,.int (due + d)]))=some [D.im (.str w),D.im (.int (due + d))]from rfl,show Ag (.im (.tup rest))=some (rest.map D.im)from rfl,Option.bind_some,Option.bind_some,if_pos cat]
  have:([D.im (.str w),D.im (.int (due + d))] ++ rest.map D.im)=(I.str w :: .int (due + d) :: rest).map D.im:=rfl
  rw[this,Ca]
theorem JV{rows:List (Int × Int)}(d:Int)(hl:rows.length <= 5):WF Ay [.im (AS (.steps rows)),.im (.int d)] [] λ r x=>r=.im (AS (mv d (.steps rows))):=by
  unfold Ay
  refine Bu rfl ?_
  refine AK (Al (AO (AA (AA (A4 rfl (A9 (AY rfl (BV _ _) (A9 (Ap ⟨_,rfl,(λ q=>absurd (of_decide_eq_true q) n11),λ _=>B1 (AE ?_)⟩)))))))))
  refine AK (Al (AO (AA (AA (A4 rfl (A9 (AY rfl (BV _ _) (A9 (Ap ⟨_,rfl,λ _=>?_,(λ q=>absurd rfl (of_decide_eq_false q))⟩)))))))))
  refine Ar (Aw (A3 (A9 (A3 (HE (Dp (G8 (AA (A4 rfl (A9 (AY rfl (DV _ _ _) ⟨_,rfl,?_⟩)))))))))))
  rw[show(rows.map BW).map D.im=rows.map B6 by simp[BW,B6]]
  refine⟨BH (by simp;omega),?_⟩
  refine HF B6 (λ q=>some (B6 (q.1 + d,q.2))) (λ _ ls=>∃ x y,ls=[some x,some y,some (.im (.int d))]) _ (Bs _) ?_ ?_
  . rintro q hq ls hls
    refine⟨[some (.im (.int q.1)),some (.im (.int q.2)),some (.im (.int d))],by rcases hls with rfl|⟨_,x,y,rfl⟩ <;> rfl,⟨_,_,rfl⟩,EO ⟨rfl,?_⟩⟩
    rw[if_pos rfl]
    exact⟨_,rfl,Aw (A3 (AA (A4 rfl (A4 rfl (Bh (A3 (A4 rfl (AB ⟨B4,rfl,rfl⟩))))))))⟩
  have e:(rows.filterMap λ q=>some (B6 (q.1 + d,q.2)))=((rows.map λ q=>(q.1 + d,q.2)).map BW).map D.im:=by simp[B6,BW]
  rw[e]
  refine⟨_,rfl,AB ⟨B4,?_⟩⟩
  rw[Ca]
  rfl
theorem O0{c:Cost}(h:cB 9000 c)(hne:∀ w,c ≠ .ends w)(d:Int):WF Ay [.im (AS c),.im (.int d)] [] λ r x=>r=.im (AS (mv d c)):=by
  have go:∀ (w:Str) (due:Int) (rest:List I),¬ w="ends"->¬ w="steps"->rest.length <= 1->WF Ay [.im (.tup (.str w :: .int due :: rest)),.im (.int d)] [] λ r x=>r=.im (.tup (.str w :: .int (due + d) :: rest)):=by
    intro w due rest q1 q2 q3
    unfold Ay
    refine Bu rfl ?_
    refine AK (Al (AO (AA (AA (A4 rfl (A9 (AY rfl (BV _ _) (A9 (Ap ⟨_,rfl,(λ q=>absurd (of_decide_eq_true q) q1),λ _=>B1 (AE ?_)⟩)))))))))
    refine AK (Al (AO (AA (AA (A4 rfl (A9 (AY rfl (BV _ _) (A9 (Ap ⟨_,rfl,(λ q=>absurd (of_decide_eq_true q) q2),λ _=>B1 (AE ?_)⟩)))))))))
    refine Ar (BE (A3 (A4 rfl (A3 (A4 rfl (AB ⟨by simp,(FC q1 q2 q3).mono ?_⟩))))))
    rintro r x rfl
    exact⟨_,rfl,rfl⟩
  cases c with
  | late x=>exact go "late" x [] n5 n1 (by simp)
  | tardy x w=>exact go "tardy" x [.int w] n6 n2 (by simp)
  | miss x w=>exact go "miss" x [.int w] n7 n3 (by simp)
  | ends w=>exact absurd rfl (hne w)
  | steps rows=>exact JV d h.1
theorem O8{c:Cost}(h:Bq c)(n:Int):WF Az [.im (AS c),.im (.int n)] [] λ r x=>r=.im (AS (mv n c)):=by
  cases c with
  | late d=>exact FC (rest:=[]) n5 n1 (by simp)
  | tardy d w=>exact FC (rest:=[.int w]) n6 n2 (by simp)
  | miss d w=>exact FC (rest:=[.int w]) n7 n3 (by simp)
  | ends w=>exact h.elim
  | steps r=>exact h.elim
theorem O7{c:Cost}(h:¬ Bq c)(n:Int):WF BL [.im (AS c),.im (.int n)] [] λ r x=>r=.im (.str "due"):=by
  have go:∀ (w:Str) (is:List I),(w="ends" ∨ w="steps")->WF BL [.im (.tup (.str w :: is)),.im (.int n)] [] λ r x=>r=.im (.str "due"):=by
    intro w is hw
    unfold BL
    refine Jt rfl ?_
    refine AK (Al (Er (AO (AA (AA (A4 rfl (A9 (AY rfl (BV _ _) (A9 (Ap ⟨_,rfl,?_⟩))))))))))
    have fin:WS (AM (mC (.str "due"))) [some (.im (.tup (.str w :: is))),some (.im (.int n))] [] (E6 CQ λ f x=>∃ d,f=.rt d/\d=.im (.str "due")):=Ar (A9 ⟨_,rfl,rfl⟩)
    by_cases q:w="ends"
    . rw[if_pos (by simpa using q)]
      exact⟨λ _=>fin,λ z=>by cases z⟩
    . rw[if_neg (by simpa using q)]
      have q2:w="steps":=hw.resolve_left q
      refine AO (AA (AA (A4 rfl (A9 (AY rfl (BV _ _) (A9 (Ap ⟨_,rfl,?_⟩)))))))
      exact⟨λ _=>fin,λ z=>absurd q2 (of_decide_eq_false z)⟩
  cases c with
  | late d=>exact absurd trivial h
  | tardy d w=>exact absurd trivial h
  | miss d w=>exact absurd trivial h
  | ends w=>exact go "ends" _ (.inl rfl)
  | steps r=>exact go "steps" _ (.inr rfl)
theorem Nz(x n:Int):WF Bk [.im (AS (.ends x)),.im (.int n)] [] λ r x=>r=.im (.str "ends"):=by
  unfold Bk
  refine Jt rfl ?_
  refine AK (Al (AO (AA (AA (A4 rfl (A9 (AY rfl (BV _ _) (A9 (Ap ⟨_,rfl,λ _=>?_,(λ q=>absurd rfl (of_decide_eq_false q))⟩)))))))))
  exact Ar (A9 ⟨_,rfl,rfl⟩)
noncomputable def BM(way:Int)(c:Cost):Prop:=if way=0 then Bq c else ∀ w,c ≠ .ends w
noncomputable def BO(way:Int)(n:Int)(c:Cost):I:=by
  classical
  exact if BM way c then tdI (mv n c)else noI (if way=0 then "due" else "ends")
theorem HH{way:Int}(hw:way=0 ∨ way=1){c:Cost}(h:cB 9000 c)(n:Int):WF DW [.im (.int way),.im (AS c),.im (.int n)] [] λ r x=>r=.im (BO way n c):=by
  unfold DW
  refine Bu rfl ?_
  refine AK (Ak (Aw (A3 (A9 (AB ⟨En,AE ?_⟩)))))
  change WS _ [some (.im (.int way)),some (.im (AS c)),some (.im (.int n)),some (.im (.tup [.str "other"])),none,none] _ _
  refine AK ?_
  by_cases t:BM way c
  . refine Mj (Ak (Aw (A3 (A9 (A3 (E5 (AO (AA (A4 rfl (A9 (Dn ⟨_,rfl,?_⟩)))))))))))
    have e:BO way n c=tdI (mv n c):=if_pos t
    rcases hw with rfl|rfl
    . have t:Bq c:=by simpa [BM]using t
      rw[if_pos (by decide)]
      refine BE (A3 (A4 rfl (A3 (A4 rfl (AB ⟨by simp,(O8 t n).mono ?_⟩)))))
      rintro r x rfl
      refine⟨_,rfl,AB ⟨B4,AE (Ar (A4 rfl ?_))⟩⟩
      show D.im _=_
      rw[e];rfl
    . have t:∀ w,c ≠ .ends w:=by simpa [BM]using t
      rw[if_neg (by decide)]
      refine BE (A3 (A4 rfl (A3 (A4 rfl (AB ⟨by simp,(O0 h t n).mono ?_⟩)))))
      rintro r x rfl
      refine⟨_,rfl,AB ⟨B4,AE (Ar (A4 rfl ?_))⟩⟩
      show D.im _=_
      rw[e];rfl
  . have e:BO way n c=noI (if way=0 then "due" else "ends"):=if_neg t
    have d0:=Q5 (i:=3) (OK (Ka (ma:=mC (.str "told")) (Lw (mr:=A8) (Q4 (c:=AJ (mOp gEq (A0 0) (mC (.int 0)))) (FU (w:=0) (ma:=A2 (A0 1) (A2 (A0 2) A8)) Eo) (FU (w:=0) (ma:=A2 (A0 1) (A2 (A0 2) A8)) Gm)))))
    refine Mi (Q7 d0) ⟨by show 4 < 6;decide,by show 5 < 6;decide,by show 3 < 6;decide⟩ (Ml d0 (Ar (Mo (A9 (E5 (AO (AA (A4 rfl (A9 (Dn ⟨_,rfl,?_⟩))))))))))
    rcases hw with rfl|rfl
    . have t:¬ Bq c:=by simpa [BM]using t
      rw[if_pos (by decide)]
      refine BE (A3 (A4 rfl (A3 (A4 rfl (AB ⟨by simp,(O7 t n).mono ?_⟩)))))
      rintro r x rfl
      refine⟨_,rfl,_,rfl,_,rfl,AE (Ar (A4 rfl ?_))⟩
      show D.im _=_
      rw[e];rfl
    . have t:∃ w,c=.ends w:=by simpa [BM]using t
      obtain⟨w,rfl⟩:=t
      rw[if_neg (by decide)]
      refine BE (A3 (A4 rfl (A3 (A4 rfl (AB ⟨by simp,(Nz w n).mono ?_⟩)))))
      rintro r x rfl
      refine⟨_,rfl,_,rfl,_,rfl,AE (Ar (A4 rfl ?_))⟩
      show D.im _=_
      rw[e];rfl
theorem QH{way:Int}(h:way=0 ∨ way=1)(x y:D):atI [x,y] way=some (if way=0 then x else y):=by
  rcases h with rfl|rfl
  . exact BA (j:=0) rfl
  . exact BA (j:=1) rfl
theorem Md{way:Int}(hw:way=0 ∨ way=1){c:Cost}(h:cB 9000 c)(n:Int):WF DB [.im (.int way),.im (AS c),.im (.int n)] [] λ r x=>r=.im (BO way n c):=by
  have plain:∀ (w:Str) (due:Int) (rest:List I),¬ w="ends"->¬ w="steps"->rest.length <= 1->WF DB [.im (.int way),.im (.tup (.str w :: .int due :: rest)),.im (.int n)] [] λ r x=>r=.im (.tup [.str "told",.tup (.str w :: .int (n + due) :: rest)]):=by
    intro w due rest h1 h2 h3
    unfold DB
    refine Bu rfl ?_
    refine AK (Ak (AA (A4 rfl (A9 (AY rfl (BV _ _) (AE ?_))))))
    change WS _ [some (.im (.int way)),some (.im (.tup (.str w :: .int due :: rest))),some (.im (.int n)),some (.im (.str w)),none,none,none,none] _ _
    refine AK (Al (AO (AA (A4 rfl (A9 (Ap ⟨_,rfl,(λ q=>absurd (of_decide_eq_true q) h1),λ _=>B1 (AE ?_)⟩))))))
    refine AK (Al (AO (AA (A4 rfl (A9 (Ap ⟨_,rfl,(λ q=>absurd (of_decide_eq_true q) h2),λ _=>B1 (AE ?_)⟩))))))
    refine AK (Ak (Bw (Mp (A4 rfl ⟨_,rfl,AE ?_⟩))))
    change WS _ [some (.im (.int way)),some (.im (.tup (.str w :: .int due :: rest))),some (.im (.int n)),some (.im (.str w)),none,none,none,some (.mu 0)] [.lst (.im (.str w) :: .im (.int due) :: rest.map D.im)] _
    refine AK (G6 (AA (A4 rfl (AA (A4 rfl (A9 (AY rfl (DV _ _ _) (Bh (A4 rfl (A9 ⟨0,1,1,_,rfl,rfl,rfl,?_,AE ?_⟩))))))))))
    . simp[ixN];omega
    refine Ar (Aw (A3 (A9 (A3 (Bg (A3 (A4 rfl (AB (J1 rfl rfl (AB ⟨B4,?_⟩))))))))))
    have e:(D.im (.str w) :: .im (.int due) :: rest.map D.im).set 1 (.im (.int (n + due)))=(I.str w :: .int (n + due) :: rest).map D.im:=rfl
    rw[e,Ca]
    rfl
  have td:∀ c',AS (mv n c)=c'->BM way c->D.im (.tup [.str "told",c'])=.im (BO way n c):=by
    rintro c' rfl t
    rw[show BO way n c=tdI (mv n c)from if_pos t];rfl
  cases c with
  | late d=>
    refine(plain "late" d [] n5 n1 (by simp)).mono ?_
    rintro r x rfl
    exact td _ (by rw[Int.add_comm];rfl) (by rcases hw with rfl|rfl <;> simp[BM,Bq])
  | tardy d w=>
    refine(plain "tardy" d [.int w] n6 n2 (by simp)).mono ?_
    rintro r x rfl
    exact td _ (by rw[Int.add_comm];rfl) (by rcases hw with rfl|rfl <;> simp[BM,Bq])
  | miss d w=>
    refine(plain "miss" d [.int w] n7 n3 (by simp)).mono ?_
    rintro r x rfl
    exact td _ (by rw[Int.add_comm];rfl) (by rcases hw with rfl|rfl <;> simp[BM,Bq])
  | ends w=>
    unfold DB
    refine Bu rfl ?_
    refine AK (Ak (AA (A4 rfl (A9 (AY rfl (BV _ _) (AE ?_))))))
    refine AK (Al (AO (AA (A4 rfl (A9 (Ap ⟨_,rfl,λ _=>?_,(λ q=>absurd rfl (of_decide_eq_false q))⟩))))))
    refine Ar (Aw (A3 (A9 (A3 (Do (C6 (A3 (A9 (A3 (A9 (AB ⟨B4,A4 rfl ⟨way,_,rfl,QH hw _ _,AB ⟨B4,?_⟩⟩⟩)))))))))))
    have t:¬ BM way (.ends w):=by rcases hw with rfl|rfl <;> simp[BM,Bq]
    rw[show BO way n (.ends w)=noI (if way=0 then "due" else "ends")from if_neg t]
    rcases hw with rfl|rfl <;> rfl
  | steps rows=>
    unfold DB
    refine Bu rfl ?_
    refine AK (Ak (AA (A4 rfl (A9 (AY rfl (BV _ _) (AE ?_))))))
    change WS _ [some (.im (.int way)),some (.im (AS (.steps rows))),some (.im (.int n)),some (.im (.str "steps")),none,none,none,none] _ _
    refine AK (Al (AO (AA (A4 rfl (A9 (Ap ⟨_,rfl,(λ q=>absurd (of_decide_eq_true q) n11),λ _=>B1 (AE ?_)⟩))))))
    refine AK (Al (AO (AA (A4 rfl (A9 (Ap ⟨_,rfl,λ _=>?_,(λ q=>absurd rfl (of_decide_eq_false q))⟩))))))
    refine AK (Ak (Bw (C6 (AB ⟨Fy,AE ?_⟩))))
    change WS _ [some (.im (.int way)),some (.im (AS (.steps rows))),some (.im (.int n)),some (.im (.str "steps")),some (.mu 0),none,none,none] [.lst []] _
    refine AK (DH (G8 (AA (A4 rfl (A9 (AY rfl (DV _ _ _) ⟨_,rfl,?_⟩))))))
    rw[show(rows.map BW).map D.im=rows.map B6 by simp[BW,B6]]
    refine DJ (λ r ls hd=>∃ (done left:List (Int × Int)) (y z:Option D),rows=done ++ left/\r=left.map B6/\ls=[some (.im (.int way)),some (.im (AS (.steps rows))),some (.im (.int n)),some (.im (.str "steps")),some (.mu 0),y,z,none]/\hd=[.lst (done.map λ q=>B6 (q.1 + n,q.2))]) ?_ ?_ ?_
    . exact⟨[],rows,none,none,rfl,rfl,rfl,rfl⟩
    . rintro d r ls hd ⟨done,left,y,z,e,er,rfl,rfl⟩
      match left,er with
      | q :: left,er=>
      cases er
      refine⟨[some (.im (.int way)),some (.im (AS (.steps rows))),some (.im (.int n)),some (.im (.str "steps")),some (.mu 0),some (.im (.int q.1)),some (.im (.int q.2)),none],rfl,?_⟩
      have hl:done.length + (left.length + 1) <= 5:=by have:=h.1;rw[e]at this;simpa using this
      refine Es (Gq (A4 rfl ⟨⟨_,rfl⟩,A3 (Aw (A3 (AA (A4 rfl (A4 rfl (Bh (A3 (A4 rfl (AB ⟨B4,AB (Jr rfl (FT (by simp;omega)) ?_)⟩)))))))))⟩))
      refine⟨Bs _,done ++ [q],left,_,_,by rw[e];simp,rfl,rfl,?_⟩
      show [MO.lst (_ ++ [_])]=_
      rw[List.map_append]
      simp[B6,Int.add_comm]
    . rintro ls hd ⟨done,left,y,z,e,er,rfl,rfl⟩
      have:left=[]:=by cases left with|nil=>rfl|cons x y=>cases er
      subst this
      have e:rows=done:=by simpa using e
      subst e
      refine AE (Ar (E5 (AO (AA (A4 rfl (A9 (Dn ⟨_,rfl,?_⟩)))))))
      rcases hw with rfl|rfl
      . rw[if_neg (by decide)]
        refine Aw (A3 (A9 (A3 (A9 (AB ⟨B4,?_⟩)))))
        rw[show BO 0 n (.steps rows)=noI (if(0:Int)=0 then "due" else "ends")from if_neg (by simp[BM,Bq])]
        rfl
      . rw[if_pos (by decide)]
        refine Aw (A3 (A9 (A3 (Aw (A3 (A9 (A3 (Bg (A3 (A4 rfl (AB (J1 rfl rfl (AB ⟨B4,AB ⟨B4,?_⟩⟩)))))))))))))
        have e:(rows.map λ q=>B6 (q.1 + n,q.2))=((rows.map λ q=>(q.1 + n,q.2)).map BW).map D.im:=by simp[B6,BW]
        rw[e,Ca,show BO 1 n (.steps rows)=tdI (mv n (.steps rows))from if_pos (by simp[BM])]
        rfl
theorem Ju{ma mb:ME}{ls:Ls}{hd:Hd}{QA:List D->Hd->Prop}(h:WE ma ls hd λ d x=>WE mb ls x λ e y=>∃ i j xs ys,d=.mu i/\e=.mu j/\y[i]? = some (.lst xs)/\y[j]? = some (.lst ys)/\Bi (xs.length + ys.length)/\QA (xs ++ ys) y):WA (Ei ma mb) ls hd QA:=by
  obtain⟨d,x,e1,e,y,e2,i,j,xs,ys,rfl,rfl,e3,e4,c,q⟩:=h
  exact⟨_,_,by simp only[Ei,e1,Option.bind_some,e2,e3,e4,c,if_true],q⟩
theorem HP{b:Int}(t:Int):∀ {rows:List (Int × Int)} {z:Int},(∀ r ∈ rows,(-b <= r.1/\r.1 <= b)/\0 <= r.2/\r.2 <= 1000)->0 <= z->z <= 1000->0 <= BT t rows z/\BT t rows z <= 1000
  | [],z,_,h1,h2=>⟨h1,h2⟩
  | r :: rows,z,h,h1,h2=>by
    simp only[BT]
    split
    . exact⟨h1,h2⟩
    . have:=h r (by simp)
      exact HP t (λ q hq=>h q (by simp[hq])) this.2.1 this.2.2
theorem Mh{c:Cost}{t:Int}(h:cB 9000 c)(h1:-20000 <= t)(h2:t <= 20000):-1000000 <= c.at t/\c.at t <= 1000000:=by
  have ml:∀ w a:Int,0 <= w->w <= 9->-30000 <= a->a <= 30000->-1000000 <= w * a/\w * a <= 1000000:=by
    intro w a p1 p2 p3 p4
    have:w=0 ∨ w=1 ∨ w=2 ∨ w=3 ∨ w=4 ∨ w=5 ∨ w=6 ∨ w=7 ∨ w=8 ∨ w=9:=by omega
    rcases this with rfl|rfl|rfl|rfl|rfl|rfl|rfl|rfl|rfl|rfl <;> omega
  cases c with
  | late d=>obtain⟨a,b⟩:=h;simp only[Cost.at];omega
  | tardy d w=>
    obtain⟨⟨a,b⟩,p,q⟩:=h
    simp only[Cost.at]
    split
    . omega
    . exact ml w _ p q (by omega) (by omega)
  | miss d w=>
    obtain⟨⟨a,b⟩,p,q⟩:=h
    simp only[Cost.at]
    split <;> omega
  | ends w=>obtain⟨p,q⟩:=h;exact ml w t p q (by omega) (by omega)
  | steps rows=>
    have:=HP t (rows:=rows) (z:=0) h.2 (by omega) (by omega)
    simp only[Cost.at];omega
theorem Js{c:Cost}(h:cB 9000 c):c.wok:=by
  cases c with
  | late d=>trivial
  | tardy d w=>exact⟨by have:=h.2.1;omega,by have:=h.2.2;omega⟩
  | miss d w=>exact⟨by have:=h.2.1;omega,by have:=h.2.2;omega⟩
  | ends w=>exact⟨by have:=h.1;omega,by have:=h.2;omega⟩
  | steps rows=>trivial
theorem Hs{some':List Int}(hl:some'.length <= 5)(hb:∀ k ∈ some',-9000 <= k/\k <= 9000){i:I}{QS:Fl->Hd->Prop}(q:∀ ns:List Int,ns.length <= 15->(∀ k ∈ ns,-9100 <= k/\k <= 9100)->∀ x:Hd,x[4]? = some (.lst (Bf ns))->QS (.rt (.mu 4)) x) :
    WS (AM (Be (Ei (Be (Ei (Be (CG 1 [] (Df (A0 1)) (Av 0) Ct (mOp CV (A0 0) (mC (.int 1))))) (A0 1))) (Be (CG 1 [] (Df (A0 1)) (Av 0) Ct (mOp Am (A0 0) (mC (.int 1)))))))) [some (.im i),some (.mu 0)] [.lst (Bf some')] QS:=by
  have cm:∀ (g:Int->Int) (me:ME) (H:Hd),H[0]? = some (.lst (Bf some'))->(∀ (k:Int) (x:Hd),WE me [some (.im (.int k))] x λ e y=>y=x/\e=.im (.int (g k)))->∀ {QE:D->Hd->Prop},QE (.mu H.length) (H ++ [.lst (Bf (some'.map g))])->WE (Be (CG 1 [] (Df (A0 1)) (Av 0) Ct me)) [some (.im i),some (.mu 0)] H QE:=by
    intro g me H e0 hme QE q
    refine Bw (Dp (J3 (A4 rfl ⟨0,Bf some',rfl,e0,?_⟩)))
    refine⟨BH (by show(Bf some').length <= _;simp[Bf];omega),?_⟩
    refine HF (xs:=some') (λ k=>D.im (.int k)) (λ k=>some (.im (.int (g k)))) (λ _ ls=>∃ x,ls=[some x]) _ (g:=[(0,Bf some')]) (hd:=H) (by intro p hp;rw[List.mem_singleton]at hp;subst hp;exact e0) ?_ ?_
    . rintro k hk ls hls
      refine⟨[some (.im (.int k))],by rcases hls with rfl|⟨_,x,rfl⟩ <;> rfl,⟨_,rfl⟩,EO ⟨rfl,?_⟩⟩
      rw[if_pos rfl]
      exact⟨_,rfl,(hme k H).mono λ e y h=>h⟩
    . have e:(some'.filterMap λ k=>some (D.im (.int (g k))))=Bf (some'.map g):=by simp[Bf]
      rw[e];exact q
  have li:∀ ns:List Int,(Bf ns).length=ns.length:=λ ns=>by simp[Bf]
  refine Ar (Bw (Ju (Bw (Ju ?_))))
  refine cm (λ k=>k - 1) _ _ rfl (λ k x=>AA (A4 rfl (A9 (Dm ⟨rfl,rfl⟩)))) ?_
  refine A4 rfl ⟨1,0,_,_,rfl,rfl,rfl,rfl,BH (by simp only[li,List.length_map];omega),?_⟩
  refine cm (λ k=>k + 1) _ _ rfl (λ k x=>AA (A4 rfl (A9 (Bh ⟨rfl,rfl⟩)))) ?_
  refine⟨2,3,_,_,rfl,rfl,rfl,rfl,BH (by simp only[li,List.length_map,List.length_append];omega),?_⟩
  refine q (some'.map (λ k=>k - 1) ++ some' ++ some'.map (λ k=>k + 1)) (by simp;omega) ?_ _ (by simp[Bf])
  intro k hk
  rcases List.mem_append.mp hk with hk|hk
  . rcases List.mem_append.mp hk with hk|hk
    . obtain⟨z,hz,rfl⟩:=List.mem_map.mp hk;have:=hb z hz;omega
    . have:=hb k hk;omega
  . obtain⟨z,hz,rfl⟩:=List.mem_map.mp hk;have:=hb z hz;omega
theorem O1{c:Cost}(h:cB 9000 c):WF CM [.im (AS c)] [] λ r x=>∃ (k:Nat) (ns:List Int),r=.mu k/\x[k]? = some (.lst (Bf ns))/\ns.length <= 15/\∀ k ∈ ns,-9100 <= k/\k <= 9100:=by
  have plain:∀ (w:Str) (due:Int) (rest:List I),¬ w="ends"->¬ w="steps"->-9000 <= due->due <= 9000->WF CM [.im (.tup (.str w :: .int due :: rest))] [] λ r x=>∃ (k:Nat) (ns:List Int),r=.mu k/\x[k]? = some (.lst (Bf ns))/\ns.length <= 15/\∀ k ∈ ns,-9100 <= k/\k <= 9100:=by
    intro w due rest h1 h2 b1 b2
    unfold CM
    refine Bu rfl ?_
    refine AK (Al (AO (AA (AA (A4 rfl (A9 (AY rfl (BV _ _) (A9 (Ap ⟨_,rfl,(λ q=>absurd (of_decide_eq_true q) h1),λ _=>B1 (AE ?_)⟩)))))))))
    refine AK (Ak (E5 (AO (AA (AA (A4 rfl (A9 (AY rfl (BV _ _) (A9 (Ap ⟨_,rfl,?_⟩))))))))))
    rw[if_neg (by simpa using h2)]
    refine Bw (C6 (A3 (AA (A4 rfl (A9 (AY rfl (DV _ _ _) (AB ⟨En,AE ?_⟩)))))))
    exact Hs (some':=[due]) (by simp) (by simp;omega) λ ns l b x e=>⟨4,ns,rfl,e,l,b⟩
  cases c with
  | late d=>exact plain "late" d [] n5 n1 h.1 h.2
  | tardy d w=>exact plain "tardy" d [.int w] n6 n2 h.1.1 h.1.2
  | miss d w=>exact plain "miss" d [.int w] n7 n3 h.1.1 h.1.2
  | ends w=>
    unfold CM
    refine Bu rfl ?_
    refine AK (Al (AO (AA (AA (A4 rfl (A9 (AY rfl (BV _ _) (A9 (Ap ⟨_,rfl,λ _=>?_,(λ q=>absurd rfl (of_decide_eq_false q))⟩)))))))))
    exact Ar (Bw (C6 (A3 (A9 (AB ⟨En,0,[0],rfl,rfl,by simp,by simp⟩)))))
  | steps rows=>
    unfold CM
    refine Bu rfl ?_
    refine AK (Al (AO (AA (AA (A4 rfl (A9 (AY rfl (BV _ _) (A9 (Ap ⟨_,rfl,(λ q=>absurd (of_decide_eq_true q) n11),λ _=>B1 (AE ?_)⟩)))))))))
    refine AK (Ak (E5 (AO (AA (AA (A4 rfl (A9 (AY rfl (BV _ _) (A9 (Ap ⟨_,rfl,?_⟩))))))))))
    rw[if_pos (by decide)]
    refine Bw (Dp (G8 (AA (A4 rfl (A9 (AY rfl (DV _ _ _) ⟨_,rfl,?_⟩))))))
    rw[show(rows.map BW).map D.im=rows.map B6 by simp[BW,B6]]
    refine⟨BH (by have:=h.1;simp;omega),?_⟩
    refine HF B6 (λ q=>some (.im (.int q.1))) (λ _ ls=>∃ x,ls=[some x]) _ (Bs _) ?_ ?_
    . rintro q hq ls hls
      refine⟨[some (B6 q)],by rcases hls with rfl|⟨_,x,rfl⟩ <;> rfl,⟨_,rfl⟩,EO ⟨rfl,?_⟩⟩
      rw[if_pos rfl]
      exact⟨_,rfl,AA (A4 rfl (A9 (AY rfl (BV _ _) ⟨rfl,rfl⟩)))⟩
    have e:(rows.filterMap λ q=>some (D.im (.int q.1)))=Bf (rows.map λ q=>q.1):=by simp[Bf]
    rw[e]
    exact AE (Hs (by simpa using h.1) (λ k hk=>by obtain⟨q,hq,rfl⟩:=List.mem_map.mp hk;exact(h.2 q hq).1) λ ns l b x e=>⟨4,ns,rfl,e,l,b⟩)
theorem Qa{v:Int}(a:-1000000 <= v)(b:v <= 1000000):Kv v.natAbs.log2:=by
  have h0:v.natAbs < 2 ^ 60:=by omega
  unfold Kv
  by_cases z:v.natAbs=0
  . rw[z];decide
  . have:=(Nat.log2_lt z).mpr h0;omega
theorem HD{hd:Hd}{QE:D->Hd->Prop}{v:Int}(h:-1000000 <= v/\v <= 1000000)(q:QE (.im (.str (toString v))) hd):WP (Dz [.im (.int v)] hd) QE:=⟨_,_,by simp[Dz,Qa h.1 h.2],q⟩
theorem Bm:F_cost_at=Bd.F_cost_at:=rfl
theorem DF{b b':Int}{c:Cost}(h:cB b c)(hb:b <= b'):cB b' c:=by
  cases c with
  | late d=>exact⟨by have:=h.1;omega,by have:=h.2;omega⟩
  | tardy d w=>exact⟨⟨by have:=h.1.1;omega,by have:=h.1.2;omega⟩,h.2⟩
  | miss d w=>exact⟨⟨by have:=h.1.1;omega,by have:=h.1.2;omega⟩,h.2⟩
  | ends w=>exact h
  | steps rows=>exact⟨h.1,λ r hr=>by have:=h.2 r hr;exact⟨⟨by omega,by omega⟩,this.2⟩⟩
theorem HY{way n:Int}(hw:way=0 ∨ way=1){c:Cost}(h:cB 7000 c)(h1:-1000 <= n)(h2:n <= 1000):C9 (I.py (BO way n c)):=by
  by_cases t:BM way c
  . rw[show BO way n c=tdI (mv n c)from if_pos t]
    exact Qd (Pf h h1 h2) (by omega)
  . rw[show BO way n c=noI (if way=0 then "due" else "ends")from if_neg t]
    exact Qe (by rcases hw with rfl|rfl <;> simp)
theorem HJ{way n:Int}(hw:way=0 ∨ way=1){c:Cost}:BM way (mv n c) ↔ BM way c:=by
  rcases hw with rfl|rfl <;> cases c <;> simp[BM,Bq,mv]
theorem nt:¬ (("no":Str)="told"):=by decide +kernel
theorem N8{c:Cost}{n k:Int}(h:cB 1000 c)(n1:-999 <= n)(n2:n <= 999)(k1:-999 <= k)(k2:k <= 999):WF DG [.im (AS c),.im (.int n),.im (.int k)] [] λ r x=>r=.im (.bl true):=by
  have h9:cB 9000 c:=DF h (by omega)
  have h7:cB 7000 c:=DF h (by omega)
  unfold DG
  refine Bu rfl ?_
  refine AK (Ak (Bg (A3 (A4 rfl (AB (Bv (Og h (by omega)) (AE ?_)))))))
  refine AK (DH (G8 (Aw (A3 (A9 (A3 (A9 (A3 (A9 (A3 (A9 (AB ⟨BH (by simp),_,rfl,?_⟩))))))))))))
  refine DJ (λ r ls hd=>(∀ d ∈ r,∃ way:Int,(way=0 ∨ way=1)/\d=.im (.int way))/\hd=[]/\∃ y4 y5 y6 y7 y8 y9:Option D,ls=[some (.im (AS c)),some (.im (.int n)),some (.im (.int k)),some (.im (.str (I.py (AS c)).shown)),y4,y5,y6,y7,y8,y9]) ?_ ?_ ?_
  . refine⟨λ d hd=>?_,rfl,none,none,none,none,none,none,rfl⟩
    simp at hd
    rcases hd with rfl|rfl|rfl|rfl
    . exact⟨0,.inl rfl,rfl⟩
    . exact⟨1,.inr rfl,rfl⟩
    . exact⟨0,.inl rfl,rfl⟩
    . exact⟨1,.inr rfl,rfl⟩
  . rintro d r ls hd ⟨hall,rfl,y4,y5,y6,y7,y8,y9,rfl⟩
    obtain⟨way,hw,rfl⟩:=hall d (by simp)
    have hall:∀ d ∈ r,∃ way:Int,(way=0 ∨ way=1)/\d=.im (.int way):=λ d hd=>hall d (by simp[hd])
    refine⟨_,rfl,?_⟩
    refine Kl ?_
    refine AK (Ak (BE (A3 (A4 rfl (A3 (A4 rfl (A3 (A4 rfl (AB ⟨by simp,(Md hw h9 n).mono ?_⟩)))))))))
    rintro d x rfl
    refine⟨_,rfl,AE ?_⟩
    refine AK (Ak (BE (A3 (A4 rfl (A3 (A4 rfl (A3 (A4 rfl (AB ⟨by simp,(HH hw h9 n).mono ?_⟩)))))))))
    rintro d x rfl
    refine⟨_,rfl,AE ?_⟩
    have rd:=HY hw h7 (n:=n) (by omega) (by omega)
    refine AK (Al (Er (AO (AA (Bg (A3 (A4 rfl (AB (Bv rd (Bg (A3 (A4 rfl (AB (Bv rd (DI ⟨_,rfl,?_⟩)))))))))))))))
    rw[if_neg (by simp)]
    refine AO (AA (Bg (A3 (A4 rfl (AB (Bv (Og h (by omega)) (A4 rfl (DI ⟨_,rfl,(λ q=>by simp at q),λ _=>B1 (AE ?_)⟩))))))))
    have fin:∀ y7 y8 y9:Option D,∀ x:Hd,(λ(f:Fl) (x:Hd)=>(x.take 0).all (clO 0)=true/\∃ f',DX 0 f=some f'/\J6 [] (λ ls hd=>(∀ d ∈ r,∃ way:Int,(way=0 ∨ way=1)/\d=.im (.int way))/\hd=[]/\∃ y4 y5 y6 y7 y8 y9:Option D,ls=[some (.im (AS c)),some (.im (.int n)),some (.im (.int k)),some (.im (.str (I.py (AS c)).shown)),y4,y5,y6,y7,y8,y9]) (E6 (AM (mC (.bl true))) λ f x=>match f with | .rt d=>d=.im (.bl true) | .nx _=>D.im .non=.im (.bl true)|_=>False) f' (x.take 0)) (.nx [some (.im (AS c)),some (.im (.int n)),some (.im (.int k)),some (.im (.str (I.py (AS c)).shown)),some (.im (.int way)),some (.im (BO way n c)),some (.im (BO way n c)),y7,y8,y9]) x:=by
      intro y7 y8 y9 x
      exact⟨rfl,_,rfl,Bs _,hall,rfl,_,_,_,_,_,_,rfl⟩
    by_cases t:BM way c
    . have e:BO way n c=tdI (mv n c):=if_pos t
      have hm:cB 2000 (mv n c):=DF (Pf (k:=999) h n1 n2) (by omega)
      have hm9:cB 9000 (mv n c):=DF hm (by omega)
      refine Al (AO (AA (AA (A4 rfl (A9 ?_)))))
      rw[e]at fin ⊢
      refine AY rfl (BV _ _) (A9 (Ap ⟨_,rfl,λ _=>?_,(λ q=>absurd rfl (of_decide_eq_false q))⟩))
      refine AK (Ak (BE (A3 (A4 rfl (A3 (AA (A4 rfl (A9 (AY rfl (DV _ _ _) (A3 (A4 rfl (AB ⟨by simp,(HH hw hm9 k).mono ?_⟩))))))))))))
      rintro d x rfl
      refine⟨_,rfl,AE ?_⟩
      refine AK (Ak (BE (A3 (A4 rfl (A3 (AA (A4 rfl (A9 (AY rfl (DV _ _ _) (A3 (AA (A9 (A4 rfl (Dm (AB ⟨by simp,(HH hw hm9 (0 - n)).mono ?_⟩)))))))))))))))
      rintro d x rfl
      refine⟨_,rfl,AE ?_⟩
      have e1:BO way k (mv n c)=BO way (n + k) c:=by
        rw[show BO way k (mv n c)=tdI (mv k (mv n c))from if_pos ((HJ hw).mpr t),MX,show BO way (n + k) c=tdI (mv (n + k) c)from if_pos t]
      have e2:BO way (0 - n) (mv n c)=tdI c:=by
        rw[show BO way (0 - n) (mv n c)=tdI (mv (0 - n) (mv n c))from if_pos ((HJ hw).mpr t),Ny]
      have r1:C9 (I.py (BO way k (mv n c))):=HY hw (DF hm (by omega)) (by omega) (by omega)
      have r2:C9 (I.py (BO way (0 - n) (mv n c))):=HY hw (DF hm (by omega)) (by omega) (by omega)
      refine AK (Al (Er (AO (AA (Bg (A3 (A4 rfl (AB (Bv r1 (Bg (A3 (BE (A3 (A4 rfl (A3 (A4 rfl (A3 (AA (A4 rfl (A4 rfl (Bh (AB ⟨by simp,(Md hw h9 (n + k)).mono ?_⟩))))))))))))))))))))))
      rintro d x rfl
      rw[<- e1]
      refine⟨_,rfl,AB (Bv r1 (DI ⟨_,rfl,?_⟩))⟩
      rw[if_neg (by simp)]
      refine AO (AA (Bg (A3 (A4 rfl (AB (Bv r2 (Bg (A3 (Aw (A3 (A9 (A3 (A4 rfl (AB ⟨B4,AB ?_⟩))))))))))))))
      rw[e2]at r2 ⊢
      refine Bv (i:=tdI c) r2 (DI ⟨_,rfl,(λ q=>by simp at q),λ _=>B1 (AE ?_)⟩)
      obtain⟨r0,x0,e0,km,ns,rfl,hx,hl,hb⟩:=O1 h9
      refine DH (J3 (WP.eq (Jk (m:=A2 (A0 0) A8) (ds:=[.im (AS c)]) (hd1:=[]) rfl rfl e0 hx (by simp[Bf,Gc])) ⟨0,Bf ns,rfl,rfl,?_⟩))
      have nE:∀ w,c ≠ .ends w:=by
        rintro w rfl
        rcases hw with rfl|rfl <;> simp[BM,Bq]at t
      refine DJ (λ r ls hd=>(∃ ms:List Int,r=Bf ms/\∀ z ∈ ms,-9100 <= z/\z <= 9100)/\hd=[.lst (Bf ns)]/\∃ y9:Option D,ls=[some (.im (AS c)),some (.im (.int n)),some (.im (.int k)),some (.im (.str (I.py (AS c)).shown)),some (.im (.int way)),some (.im (tdI (mv n c))),some (.im (tdI (mv n c))),some (.im (BO way k (mv n c))),some (.im (tdI c)),y9]) ?_ ?_ ?_
      . exact⟨⟨ns,rfl,hb⟩,rfl,_,rfl⟩
      . rintro d r' ls hd ⟨⟨ms,er,hms⟩,rfl,y9,rfl⟩
        match ms,er,hms with
        | z :: ms,er,hms=>
        cases er
        have hz:=hms z (by simp)
        refine⟨_,rfl,?_⟩
        have v1:=Mh (t:=z + n) hm9 (by omega) (by omega)
        have v2:=Mh (t:=z) h9 (by omega) (by omega)
        have c1:WF F_cost_at [.im (AS (mv n c)),.im (.int (z + n))] [] λ r x=>r=.im (.int ((mv n c).at (z + n))):=⟨_,_,by rw[Bm];exact G0 _ _ (Js hm9),rfl⟩
        have c2:WF F_cost_at [.im (AS c),.im (.int z)] [] λ r x=>r=.im (.int (c.at z)):=⟨_,_,by rw[Bm];exact G0 _ _ (Js h9),rfl⟩
        refine Al (AO (AA (Bg (A3 (BE (A3 (AA (A4 rfl (A9 (AY rfl (DV _ _ _) (A3 (AA (A4 rfl (A4 rfl (Bh (AB ⟨by simp,c1.mono ?_⟩))))))))))))))))
        rintro d x rfl
        refine⟨_,rfl,AB (HD v1 (Bg (A3 (BE (A3 (A4 rfl (A3 (A4 rfl (AB ⟨by simp,c2.mono ?_⟩)))))))))⟩
        rintro d x rfl
        rw[RU n z c nE]at *
        refine⟨_,rfl,AB (HD v2 (DI ⟨_,rfl,(λ q=>by simp at q),λ _=>B1 ?_⟩))⟩
        exact⟨by intro p hp;rw[List.mem_singleton]at hp;subst hp;rfl,⟨ms,rfl,λ z hz=>hms z (by simp[hz])⟩,rfl,_,rfl⟩
      . rintro ls hd ⟨_,rfl,y9,rfl⟩
        exact fin _ _ _ _
    . have e:BO way n c=noI (if way=0 then "due" else "ends"):=if_neg t
      refine Al (AO (AA (AA (A4 rfl (A9 ?_)))))
      rw[e]at fin ⊢
      refine AY rfl (BV _ _) (A9 (Ap ⟨_,rfl,(λ q=>absurd (of_decide_eq_true q) nt),λ _=>B1 ?_⟩))
      exact fin _ _ _ _
  . rintro ls hd ⟨_,rfl,y4,y5,y6,y7,y8,y9,rfl⟩
    exact AE (Ar (A9 rfl))
end T04
namespace Bd
open PySem L2
end Bd
namespace Rw
open PySem L2 Bd
end Rw
namespace T04
open PySem L2 Bd
theorem Bj:F_pick=Bd.F_pick:=rfl
theorem DS:F_tape=Bd.F_tape:=rfl
noncomputable def T(_:Nat)(a b:MO):Prop:=∃ τ:Tp,tp τ=[a,b]
theorem tap:Tap T F_pick where
  cl:=by
    rintro k a b ⟨τ,e⟩
    have:=QV τ
    rw[e]at this
    simpa using this
  le:=λ h _=>h
  pick:=by
    rintro k a b many ⟨τ,e⟩ h0 h1
    obtain⟨r,τ',d⟩:=draw τ many h0 h1
    refine⟨r,.lst (τ'.cells.map λ i=>.im (.int i)),.dic (B0 τ'),d.lo,d.hi,?_,τ',rfl⟩
    rw[<- e,Bj]
    exact d.eq
theorem at4{r:Int}(h0:0 <= r)(h1:r < 4)(x y z w:D):∃ d,(d=x ∨ d=y ∨ d=z ∨ d=w)/\atI [x,y,z,w] r=some d:=by
  have:r=0 ∨ r=1 ∨ r=2 ∨ r=3:=by omega
  rcases this with rfl|rfl|rfl|rfl
  . exact⟨x,.inl rfl,BA (j:=0) rfl⟩
  . exact⟨y,.inr (.inl rfl),BA (j:=1) rfl⟩
  . exact⟨z,.inr (.inr (.inl rfl)),BA (j:=2) rfl⟩
  . exact⟨w,.inr (.inr (.inr rfl)),BA (j:=3) rfl⟩
theorem Kc:∀ a b,T 0 a b->WF Cr [.mu 1] [a,b] λ d x=>∃ i a' b' g,d=.im i/\(∃ n:Int,i=.int n/\-999 <= n/\n <= 999)/\T 0 a' b'/\x=a' :: b' :: g:=by
  intro a b hT
  unfold Cr
  refine Bu rfl ?_
  refine AK (Ak (Do (C6 (A3 (A9 (A3 (A9 (A3 ?_))))))))
  refine tap.draw (n:=0) hT rfl (by decide) (by decide) λ r1 a b hT p1 q1=>A3 ?_
  refine tap.draw (n:=0) hT rfl (by decide) (by decide) λ r2 a b hT p2 q2=>AB ⟨BH (by simp),?_⟩
  refine tap.draw (n:=0) hT rfl (by decide) (by decide) λ r3 a b hT p3 q3=>?_
  obtain⟨d,hd,ed⟩:=at4 p3 q3 (.im (.int 0)) (.im (.int 1)) (.im (.int r1)) (.im (.int r2))
  obtain⟨m,rfl,m0,m1⟩:∃ m:Int,d=.im (.int m)/\0 <= m/\m <= 999:=by
    rcases hd with rfl|rfl|rfl|rfl
    . exact⟨_,rfl,by omega,by omega⟩
    . exact⟨_,rfl,by omega,by omega⟩
    . exact⟨_,rfl,by omega,by omega⟩
    . exact⟨_,rfl,by omega,by omega⟩
  refine⟨r3,_,rfl,ed,AE ?_⟩
  refine Ar (AA (A4 rfl (Do (C6 (A3 (A9 (A3 (OS (A9 ⟨_,rfl,AB ⟨B4,?_⟩⟩)))))))))
  refine tap.draw (n:=0) hT rfl (by decide) (by decide) λ r4 a b hT p4 q4=>?_
  have:r4=0 ∨ r4=1:=by omega
  rcases this with rfl|rfl
  . exact⟨0,_,rfl,BA (j:=0) rfl,Jq (C4 (by omega) (by omega)) ⟨_,a,b,_,rfl,⟨m * 1,rfl,by omega,by omega⟩,hT,rfl⟩⟩
  . exact⟨1,_,rfl,BA (j:=1) rfl,Jq (C4 (by omega) (by omega)) ⟨_,a,b,_,rfl,⟨m * -1,rfl,by omega,by omega⟩,hT,rfl⟩⟩
theorem RP{a b:MO}(hT:T 0 a b){way:D}{z2 z3 z4 z5 z6 z7:Option D}{QE:D->Hd->Prop}(q:∀ (due:Int) (a b:MO),T 0 a b->-99 <= due->due <= 400->QE (.im (.int due)) [a,b]) :
    WE (mIf (AJ (mOp gEq (AF 2 F_pick (A2 (A0 0) (A2 (mC (.int 4)) A8))) (mC (.int 0)))) (mOp CV (AF 2 F_pick (A2 (A0 0) (A2 (mC (.int 500)) A8))) (mC (.int 99))) (mOp CV (AF 2 F_pick (A2 (A0 0) (A2 (mC (.int 40)) A8))) (mC (.int 5)))) [some (.mu 1),some way,z2,z3,z4,z5,z6,z7] [a,b] QE:=by
  refine E5 (AO (AA ?_))
  refine tap.draw (n:=0) hT rfl (by decide) (by decide) λ r1 a b hT p1 q1=>A9 (Dn ⟨_,rfl,?_⟩)
  by_cases z:r1=0
  . rw[if_pos (by simpa using z)]
    exact AA (tap.draw (n:=0) hT rfl (by decide) (by decide) λ r2 a b hT p2 q2=>A9 (Dm (q _ a b hT (by omega) (by omega))))
  . rw[if_neg (by simpa using z)]
    exact AA (tap.draw (n:=0) hT rfl (by decide) (by decide) λ r2 a b hT p2 q2=>A9 (Dm (q _ a b hT (by omega) (by omega))))
theorem Q8{way:Int}(w0:0 <= way)(w5:way < 5):∀ a b,T 0 a b->WF E3 [.mu 1,.im (.int way)] [a,b] λ d x=>∃ i a' b' g,d=.im i/\(∃ c,i=AS c/\cB 1000 c)/\T 0 a' b'/\x=a' :: b' :: g:=by
  intro a b hT
  unfold E3
  refine Bu rfl ?_
  refine AK (Ak (RP hT λ due a b hT d1 d2=>AE ?_))
  refine AK (Ak (tap.draw (n:=0) hT rfl (by decide) (by decide) λ wt a b hT p1 q1=>AE ?_))
  refine AK (Al (AO (AA (A4 rfl (A9 (Gp ⟨_,rfl,λ hA=>?_,λ hA=>B1 (AE ?_)⟩))))))
  . have w4:way < 4:=of_decide_eq_true hA
    refine Ar (Do (C6 (A3 (Aw (A3 (A9 (A3 (A4 rfl (AB ⟨B4,A3 ?_⟩)))))))))
    refine Aw (A3 (A9 (A3 (A4 rfl (A3 (A4 rfl (AB ⟨Fx,A3 ?_⟩)))))))
    refine Aw (A3 (A9 (A3 (A4 rfl (A3 (A4 rfl (AB ⟨Fx,A3 ?_⟩)))))))
    refine Aw (A3 (A9 (A3 (A4 rfl (AB ⟨B4,AB ⟨BH (by simp),A4 rfl ?_⟩⟩)))))
    have:way=0 ∨ way=1 ∨ way=2 ∨ way=3:=by omega
    rcases this with rfl|rfl|rfl|rfl
    . exact⟨0,_,rfl,BA (j:=0) rfl,_,a,b,[],rfl,⟨.late due,rfl,by omega,by omega⟩,hT,rfl⟩
    . exact⟨1,_,rfl,BA (j:=1) rfl,_,a,b,[],rfl,⟨.tardy due wt,rfl,⟨by omega,by omega⟩,by omega,by omega⟩,hT,rfl⟩
    . exact⟨2,_,rfl,BA (j:=2) rfl,_,a,b,[],rfl,⟨.miss due wt,rfl,⟨by omega,by omega⟩,by omega,by omega⟩,hT,rfl⟩
    . exact⟨3,_,rfl,BA (j:=3) rfl,_,a,b,[],rfl,⟨.ends wt,rfl,by omega,by omega⟩,hT,rfl⟩
  refine AK (HC (A3 (Bg (A3 (A4 rfl (A3 (A9 (AB (G7 (A3 (A9 (AB ⟨rfl,AE ?_⟩))))))))))))
  refine AK (Ak (Bw (C6 (AB ⟨Fy,AE ?_⟩))))
  refine AK (DH (J2 (A3 (AA (A9 ?_)))))
  refine tap.draw (n:=0) hT rfl (by decide) (by decide) λ r1 a b hT p2 q2=>Bh (AB ⟨_,rfl,IW (by omega) (by omega),?_⟩)
  refine DJ (λ r ls hd=>∃ (rows:List (Int × Int)) (s h:Int) (a b:MO) (z:Option D),ls=[some (.mu 1),some (.im (.int way)),some (.im (.int due)),some (.im (.int wt)),some (.im (.int s)),some (.im (.int h)),some (.mu 2),z]/\hd=[a,b,.lst (rows.map B6)]/\T 0 a b/\rows.length + r.length <= 5/\(-99 <= s/\s <= 200 + 40 * (rows.length:Int))/\(0 <= h/\h <= 19 * (rows.length:Int))/\∀ q ∈ rows,(-1000 <= q.1/\q.1 <= 1000)/\0 <= q.2/\q.2 <= 1000) ?_ ?_ ?_
  . refine⟨[],_,_,a,b,none,rfl,rfl,hT,?_,⟨by omega,by simp;omega⟩,⟨by omega,by simp⟩,by simp⟩
    simp;omega
  . rintro d r ls hd ⟨rows,s,h,a,b,z,rfl,rfl,hT,hl,hs,hh,hall⟩
    simp only[List.length_cons]at hl
    refine⟨_,rfl,?_⟩
    refine AK (Ak (AA (AA (A4 rfl (A9 (Bh ?_))))))
    refine tap.draw (n:=0) hT rfl (by decide) (by decide) λ r3 a b hT p3 q3=>Bh (AE ?_)
    refine AK (Ak (AA (A4 rfl ?_)))
    refine tap.draw (n:=0) hT rfl (by decide) (by decide) λ r4 a b hT p4 q4=>Bh (AE ?_)
    refine Es (Gq (A4 rfl ⟨⟨_,rfl⟩,A3 (Aw (A3 (A4 rfl (A3 (A4 rfl (AB ⟨B4,AB (Jr rfl (FT (by simp;omega)) ?_)⟩))))))⟩))
    refine⟨Bs _,rows ++ [(s + 1 + r3,h + r4)],_,_,a,b,_,rfl,by simp[B6],hT,by simp;omega,⟨by omega,by simp;omega⟩,⟨by omega,by simp;omega⟩,λ q hq=>?_⟩
    rcases List.mem_append.mp hq with hq|hq
    . exact hall q hq
    . have:rows.length <= 4:=by omega
      simp at hq;subst hq
      exact⟨⟨by show -1000 <= s + 1 + r3;omega,by show s + 1 + r3 <= 1000;omega⟩,by show 0 <= h + r4;omega,by show h + r4 <= 1000;omega⟩
  . rintro ls hd ⟨rows,s,h,a,b,z,rfl,rfl,hT,hl,hs,hh,hall⟩
    refine AE (Ar (Aw (A3 (A9 (A3 (Bg (A3 (A4 rfl (AB (J1 rfl rfl (AB ⟨B4,?_⟩)))))))))))
    have e:rows.map B6=(rows.map BW).map D.im:=by simp[B6,BW]
    refine⟨_,a,b,_,by rw[e,Ca];rfl,⟨.steps rows,rfl,by simpa using hl,hall⟩,hT,rfl⟩
theorem QB{F:List D->Hd->Option (D × Hd)}{m:MA}{ls:Ls}{hd:Hd}{QE:D->Hd->Prop}(h:WA m ls hd λ ds x=>∃ (a b:MO) (rest:Hd) (as:List D) (R:I->Prop),x=a :: b :: rest/\ds=.mu 1 :: as/\T 0 a b/\BI 2 as=true/\(∀ a b,T 0 a b->WF F (.mu 1 :: as) [a,b] λ d x=>∃ i a' b' g,d=.im i/\R i/\T 0 a' b'/\x=a' :: b' :: g)/\∀ i a' b',T 0 a' b'->R i->QE (.im i) (a' :: b' :: rest)):WE (AF 2 F m) ls hd QE:=by
  obtain⟨ds,x,e,a,b,rest,as,R,rfl,rfl,hT,hc,hF,k⟩:=h
  exact tap.call (n:=0) (c:=0) hT e hc hF k
theorem R8(ns:List Int):WF F_law [.ro ns] [] λ d x=>d=.im (.bl true):=by
  unfold F_law
  refine Bu rfl ?_
  obtain⟨τ,et⟩:=Mr ns
  refine AK (Ak (FK (A3 (A4 rfl (AB (WP.eq (DS ▸ et) (AE ?_)))))))
  refine AK (DH (J2 (A3 (A9 (AB ⟨_,rfl,IW (by decide) (by decide),?_⟩)))))
  refine DJ (λ r ls hd=>∃ (a b:MO) (z2 z3:Option D),ls=[some (.ro ns),some (.mu 1),z2,z3]/\hd=[a,b]/\T 0 a b/\∀ d ∈ r,∃ k:Int,d=.im (.int k)/\0 <= k/\k < 8) ?_ ?_ ?_
  . refine⟨_,_,none,none,rfl,rfl,⟨τ,rfl⟩,λ d hd=>?_⟩
    simp[BD]at hd
    rcases hd with rfl|rfl|rfl|rfl|rfl|rfl|rfl|rfl <;> exact⟨_,rfl,by omega,by omega⟩
  . rintro d r ls hd ⟨a,b,z2,z3,rfl,rfl,hT,hall⟩
    obtain⟨k,rfl,k0,k8⟩:=hall d (by simp)
    have hall:∀ d ∈ r,∃ k:Int,d=.im (.int k)/\0 <= k/\k < 8:=λ d hd=>hall d (by simp[hd])
    refine⟨_,rfl,?_⟩
    refine AK (Ak (QB (A3 (A4 rfl (A3 (E5 (AO (AA (A4 rfl (A9 (Gp ⟨_,rfl,?_⟩)))))))))))
    have main:∀ (way:Int) (a b:MO),T 0 a b->0 <= way->way < 5->∃ (a' b':MO) (rest:Hd) (as:List D) (R:I->Prop),[a,b]=a' :: b' :: rest/\[D.mu 1,.im (.int way)]=.mu 1 :: as/\T 0 a' b'/\BI 2 as=true/\(∀ a b,T 0 a b->WF E3 (.mu 1 :: as) [a,b] λ d x=>∃ i a' b' g,d=.im i/\R i/\T 0 a' b'/\x=a' :: b' :: g)/\∀ i a b,T 0 a b->R i->E6 (Ab (GK (GJ (AF 0 DG (A2 (A0 3) (A2 (AF 2 Cr (A2 (A0 1) A8)) (A2 (AF 2 Cr (A2 (A0 1) A8)) A8)))))) (AM (mC (.bl false))) AV) (J6 [] (λ ls hd=>∃ (a b:MO) (z2 z3:Option D),ls=[some (.ro ns),some (.mu 1),z2,z3]/\hd=[a,b]/\T 0 a b/\∀ d ∈ r,∃ k:Int,d=.im (.int k)/\0 <= k/\k < 8) (E6 (AM (mC (.bl true))) λ f x=>match f with | .rt d=>d=.im (.bl true) | .nx _=>D.im .non=.im (.bl true)|_=>False)) (.nx [some (.ro ns),some (.mu 1),some (.im (.int k)),some (.im i)]) (a :: b :: rest):=by
      intro way a b hT w0 w5
      refine⟨a,b,[],_,_,rfl,rfl,hT,by simp,Q8 w0 w5,?_⟩
      rintro i a b hT ⟨c,rfl,hc⟩
      refine AE (Al (HB (OP (BE (A3 (A4 rfl (A3 ?_)))))))
      refine tap.call (n:=0) (c:=0) hT (as:=[]) (rest:=[]) rfl rfl Kc ?_
      rintro i a b hT ⟨n,rfl,n1,n2⟩
      refine A3 (tap.call (n:=0) (c:=0) hT (as:=[]) (rest:=[]) rfl rfl Kc ?_)
      rintro i a b hT ⟨m,rfl,m1,m2⟩
      refine AB ⟨by simp,(N8 hc n1 n2 m1 m2).mono ?_⟩
      rintro d x rfl
      exact⟨_,rfl,_,rfl,(λ h=>by cases h),λ _=>B1 ⟨Bs _,a,b,_,_,rfl,rfl,hT,hall⟩⟩
    by_cases q:k < 5
    . rw[if_pos (by simpa using q)]
      exact A4 rfl (AB (main k a b hT k0 q))
    . rw[if_neg (by simpa using q)]
      exact tap.draw (n:=0) hT rfl (by decide) (by decide) λ r1 a b hT p1 q1=>AB (main r1 a b hT p1 q1)
  . rintro ls hd ⟨a,b,z2,z3,rfl,rfl,hT,hall⟩
    exact AE (Ar (A9 rfl))
theorem law_eq(ns:List Int):∃ hd,F_law [.ro ns] []=some (.im (.bl true),hd):=by
  obtain⟨d,x,e,rfl⟩:=R8 ns
  exact⟨x,e⟩
open PySem L2 PySem.W PyProof.Rows
noncomputable abbrev xS:List (Str × Str × Nat × Nat):=[]
noncomputable abbrev tS(P:Str->Addr):List Tb:=xS.map λ x=>(P x.1,x.2)
set_option maxHeartbeats 4000000 in
theorem all_mk{l:PySem.W.OpenLaw}{w:World}{K:PySem.W.Frag}{h:Heap}{mg:Str->Option Value}{fa f0 f1 f2 f3 f4 f5 f6 f7 f8 f9 f10 f11 f12:Addr}(X:K.In h)(G:h.Ns mainGlobals mg){c P:Str->Addr}(hfa:mg "law"=some (.ref fa))(hx:∀ x ∈ xS,h.get? (P x.1)=some (tabObj #[])/\CodeHd h (c x.1) (P x.1)/\∃ a o fd,mg x.1=some (.ref a)/\h.get? a=some o/\o.data=.func fd/\fd.code=.ref (c x.1))
    {od0 an0 od1 an1 od2 an2 od3 an3 od4 an4 od5 an5 od6 an6 od7 an7 od8 an8 od9 an9 od10 an10 od11 an11 od12 an12:Option Addr} {sl0 sl1 sl2 sl3 sl4 sl5 sl6 sl7 sl8 sl9 sl10 sl11 sl12:Array (Option Value)} {oc0 kV0 dc0 pm0 cd0 ct0 oc1 kV1 dc1 pm1 cd1 ct1 oc2 kV2 dc2 pm2 cd2 ct2 oc3 kV3 dc3 pm3 cd3 ct3 oc4 kV4 dc4 pm4 cd4 ct4 oc5 kV5 dc5 pm5 cd5 ct5 oc6 kV6 dc6 pm6 cd6 ct6 oc7 kV7 dc7 pm7 cd7 ct7 oc8 kV8 dc8 pm8 cd8 ct8 oc9 kV9 dc9 pm9 cd9 ct9 oc10 kV10 dc10 pm10 cd10 ct10 oc11 kV11 dc11 pm11 cd11 ct11 oc12 kV12 dc12 pm12 cd12 ct12:Value}
     {C Bc fI cx1 cx2 cx3 cx4 cx5 cx6 cx7 nX:Addr} {nmX qX:Str} {bsX bmX subX:List Value} {snX:List Str} {abX:Bool} {colX:Option Bool} {ddX odI anI:Option Addr} {e0 e1 e2 e3 e5:Option Value} {slI:Array (Option Value)} {ocI kVI dcI pmI cdI ctI:Value} (a0:PySem.W.nsIn K mainGlobals "law"=some (some (.ref f0))) (l0:K.lookup f0=some ⟨oc0,od0,.func (PySem.W.fnOf "law" "law" (Aq Ce) (Af Ce) (AC Ce) .none kV0 dc0 pm0 an0 cd0 ct0),sl0⟩) (c0:PySem.W.codeIn K cd0 "law"=true) (k0:PySem.W.keepIn K (.ref f0)=true)
    (a1:PySem.W.nsIn K mainGlobals "_law_tape"=some (some (.ref f1))) (l1:K.lookup f1=some ⟨oc1,od1,.func (PySem.W.fnOf "_law_tape" "_law_tape" (Aq Ch) (Af Ch) (AC Ch) .none kV1 dc1 pm1 an1 cd1 ct1),sl1⟩) (c1:PySem.W.codeIn K cd1 "_law_tape"=true) (k1:PySem.W.keepIn K (.ref f1)=true)
    (a2:PySem.W.nsIn K mainGlobals "_law_pick"=some (some (.ref f2))) (l2:K.lookup f2=some ⟨oc2,od2,.func (PySem.W.fnOf "_law_pick" "_law_pick" (Aq C7) (Af C7) (AC C7) .none kV2 dc2 pm2 an2 cd2 ct2),sl2⟩) (c2:PySem.W.codeIn K cd2 "_law_pick"=true) (k2:PySem.W.keepIn K (.ref f2)=true)
    (a3:PySem.W.nsIn K mainGlobals "_law_cost"=some (some (.ref f3))) (l3:K.lookup f3=some ⟨oc3,od3,.func (PySem.W.fnOf "_law_cost" "_law_cost" (Aq Cj) (Af Cj) (AC Cj) .none kV3 dc3 pm3 an3 cd3 ct3),sl3⟩) (c3:PySem.W.codeIn K cd3 "_law_cost"=true) (k3:PySem.W.keepIn K (.ref f3)=true)
    (a4:PySem.W.nsIn K mainGlobals "_law_days"=some (some (.ref f4))) (l4:K.lookup f4=some ⟨oc4,od4,.func (PySem.W.fnOf "_law_days" "_law_days" (Aq Ci) (Af Ci) (AC Ci) .none kV4 dc4 pm4 an4 cd4 ct4),sl4⟩) (c4:PySem.W.codeIn K cd4 "_law_days"=true) (k4:PySem.W.keepIn K (.ref f4)=true)
    (a5:PySem.W.nsIn K mainGlobals "steps_at"=some (some (.ref f5))) (l5:K.lookup f5=some ⟨oc5,od5,.func (PySem.W.fnOf "steps_at" "steps_at" (Aq BY) (Af BY) (AC BY) .none kV5 dc5 pm5 an5 cd5 ct5),sl5⟩) (c5:PySem.W.codeIn K cd5 "steps_at"=true) (k5:PySem.W.keepIn K (.ref f5)=true)
    (a6:PySem.W.nsIn K mainGlobals "cost_at"=some (some (.ref f6))) (l6:K.lookup f6=some ⟨oc6,od6,.func (PySem.W.fnOf "cost_at" "cost_at" (Aq Bl) (Af Bl) (AC Bl) .none kV6 dc6 pm6 an6 cd6 ct6),sl6⟩) (c6:PySem.W.codeIn K cd6 "cost_at"=true) (k6:PySem.W.keepIn K (.ref f6)=true)
    (a7:PySem.W.nsIn K mainGlobals "later_due"=some (some (.ref f7))) (l7:K.lookup f7=some ⟨oc7,od7,.func (PySem.W.fnOf "later_due" "later_due" (Aq Ax) (Af Ax) (AC Ax) .none kV7 dc7 pm7 an7 cd7 ct7),sl7⟩) (c7:PySem.W.codeIn K cd7 "later_due"=true) (k7:PySem.W.keepIn K (.ref f7)=true)
    (a8:PySem.W.nsIn K mainGlobals "moved_cost"=some (some (.ref f8))) (l8:K.lookup f8=some ⟨oc8,od8,.func (PySem.W.fnOf "moved_cost" "moved_cost" (Aq B5) (Af B5) (AC B5) .none kV8 dc8 pm8 an8 cd8 ct8),sl8⟩) (c8:PySem.W.codeIn K cd8 "moved_cost"=true) (k8:PySem.W.keepIn K (.ref f8)=true)
    (a9:PySem.W.nsIn K mainGlobals "_law_told"=some (some (.ref f9))) (l9:K.lookup f9=some ⟨oc9,od9,.func (PySem.W.fnOf "_law_told" "_law_told" (Aq Cg) (Af Cg) (AC Cg) .none kV9 dc9 pm9 an9 cd9 ct9),sl9⟩) (c9:PySem.W.codeIn K cd9 "_law_told"=true) (k9:PySem.W.keepIn K (.ref f9)=true)
    (a10:PySem.W.nsIn K mainGlobals "_law_due"=some (some (.ref f10))) (l10:K.lookup f10=some ⟨oc10,od10,.func (PySem.W.fnOf "_law_due" "_law_due" (Aq DZ) (Af DZ) (AC DZ) .none kV10 dc10 pm10 an10 cd10 ct10),sl10⟩) (c10:PySem.W.codeIn K cd10 "_law_due"=true) (k10:PySem.W.keepIn K (.ref f10)=true)
    (a11:PySem.W.nsIn K mainGlobals "_law_marks"=some (some (.ref f11))) (l11:K.lookup f11=some ⟨oc11,od11,.func (PySem.W.fnOf "_law_marks" "_law_marks" (Aq CJ) (Af CJ) (AC CJ) .none kV11 dc11 pm11 an11 cd11 ct11),sl11⟩) (c11:PySem.W.codeIn K cd11 "_law_marks"=true) (k11:PySem.W.keepIn K (.ref f11)=true)
    (a12:PySem.W.nsIn K mainGlobals "_law_right"=some (some (.ref f12))) (l12:K.lookup f12=some ⟨oc12,od12,.func (PySem.W.fnOf "_law_right" "_law_right" (Aq CI) (Af CI) (AC CI) .none kV12 dc12 pm12 an12 cd12 ct12),sl12⟩) (c12:PySem.W.codeIn K cd12 "_law_right"=true) (k12:PySem.W.keepIn K (.ref f12)=true)
    (z_list:PySem.W.nsIn K mainGlobals "list"=some none)
    (z_tuple:PySem.W.nsIn K mainGlobals "tuple"=some none)
    (z_len:PySem.W.nsIn K mainGlobals "len"=some none)
    (z_range:PySem.W.nsIn K mainGlobals "range"=some none)
    (z_repr:PySem.W.nsIn K mainGlobals "repr"=some none)
    (z_sum:PySem.W.nsIn K mainGlobals "sum"=some none)
    (z_min:PySem.W.nsIn K mainGlobals "min"=some none)
    (z_max:PySem.W.nsIn K mainGlobals "max"=some none)
    (z_abs:PySem.W.nsIn K mainGlobals "abs"=some none)
    (z_all:PySem.W.nsIn K mainGlobals "all"=some none)
    (z_any:PySem.W.nsIn K mainGlobals "any"=some none)
    (z_sorted:PySem.W.nsIn K mainGlobals "sorted"=some none)
    (z_zip:PySem.W.nsIn K mainGlobals "zip"=some none)
    (z_isinstance:PySem.W.nsIn K mainGlobals "isinstance"=some none)
    (z_int:PySem.W.nsIn K mainGlobals "int"=some none)
    (z_bool:PySem.W.nsIn K mainGlobals "bool"=some none)
    (z_str:PySem.W.nsIn K mainGlobals "str"=some none)
    (z_set:PySem.W.nsIn K mainGlobals "set"=some none)
    (z_enumerate:PySem.W.nsIn K mainGlobals "enumerate"=some none)
    (z_reversed:PySem.W.nsIn K mainGlobals "reversed"=some none)
    (z_dict:PySem.W.nsIn K mainGlobals "dict"=some none)
    (xC:PySem.W.nsIn K mainGlobals "NoRule"=some (some (.ref C)))
    (xB:PySem.W.nsIn K mainGlobals "BenchError"=some (some (.ref Bc)))
    (x1:PySem.W.nsIn K mainGlobals "NoBack"=some (some (.ref cx1)))
    (x2:PySem.W.nsIn K mainGlobals "NoPaper"=some (some (.ref cx2)))
    (x3:PySem.W.nsIn K mainGlobals "NoRow"=some (some (.ref cx3)))
    (x4:PySem.W.nsIn K mainGlobals "NoText"=some (some (.ref cx4)))
    (x5:PySem.W.nsIn K mainGlobals "NoWish"=some (some (.ref cx5)))
    (x6:PySem.W.nsIn K mainGlobals "NoWork"=some (some (.ref cx6)))
    (x7:PySem.W.nsIn K mainGlobals "TooMany"=some (some (.ref cx7)))
    (xV:PySem.W.nsIn K mainGlobals "ValueError"=some none)
    (fi:PySem.W.findIn K (.ref C) "__init__"=some (some (.ref fI)))
    (ki:PySem.W.keepIn K (.ref fI)=true)
    (fn:PySem.W.isFn K (.ref fI)=true)
    (kp:PySem.W.keepIn K (.ref C)=true)
    (sa:PySem.W.findIn K (.ref C) "__setattr__"=some (some (.builtin "object.__setattr__")))
    (ga:PySem.W.findIn K (.ref C) "__getattribute__"=some (some (.builtin "BaseException.__getattribute__")))
    (gx:PySem.W.findIn K (.ref C) "__getattr__"=some none)
    (na:PySem.W.findIn K (.ref C) "word"=some none)
    (ca:PySem.W.findIn K (.ref C) "__class__"=some (some (.builtin "object.__class__")))
    (gd:PySem.W.specialIn K (.builtin "object.__class__") "__get__"=some (some (.builtin "getset_descriptor.__get__")))
    (tk:PySem.W.takesIn K (.builtin "object.__class__")=some true)
    (mo:PySem.W.mroIn K C (.type "object")=some true)
    (lC:K.lookup C=some (excClassObj nmX qX C nX bsX bmX true snX subX abX colX ddX e0 e1 e2 e3 e5 "ValueError.__new__"))
    (ov:OverV bmX)
    (li:K.lookup fI=some ⟨ocI,odI,.func (PySem.W.fnOf "__init__" "NoRule.__init__" (Aq Dq) (Af Dq) (AC Dq) .none kVI dcI pmI anI cdI ctI),slI⟩)
    (ci:PySem.W.codeIn K cdI "NoRule.__init__"=true)
    (kx1:PySem.W.exmOne K (.ref C) (.ref Bc)=some true)
    (kx2:PySem.W.kitOne K (.ref C) (.type "ValueError")=some true)
    (kx3:PySem.W.kitAny K (.ref C) ([cx1,cx2,cx3,cx4,cx5,cx6,cx7].map Value.ref)=some false) :
    (∃ g,K.lookup mainGlobals=some g)/\∃ fd:FuncData,(∀ (s:Shared) (v:Value),BindsTo s fd ⟨[v],[]⟩ [("_law_script",v)])/\∀ base:Heap,(Ad K (tS P)).In base->base.Ns mainGlobals mg->(∀ x ∈ xS,CodeHd base (c x.1) (P x.1))->(∀ x ∈ xS,base.BuiltinsAt mg (P x.1))->FnOk l.prog w (Ad K (tS P)) mg base CX0 7 fa fd ["_law_script"] (spF (Ad K (tS P)) 1 F_law):=by
  have hP:∀ P' ∈ (tS P).map (·.1),h.get? P'=some (tabObj #[]):=λ P' hp=>by
    obtain⟨t,ht,rfl⟩:=List.mem_map.mp hp
    obtain⟨x,hxx,rfl⟩:=List.mem_map.mp ht
    exact(hx x hxx).1
  have e:=hfa.symm.trans (PySem.W.mg_of X G a0)
  cases e
  have F0:=Fun.mark (ts:=tS P) (Ba (st:=Ce) l0 c0 k0) X hP
  have D0:DefAt (Ad K (tS P)) mg "law" Ce _ _ ["_law_script"]:=⟨F0,PySem.W.mg_of X G a0,F0.binds (ps:=["_law_script"]) λ _ _ _ _ _ _ us hl=>match us,hl with | [_],_=>rfl⟩
  have F1:=Fun.mark (ts:=tS P) (Ba (st:=Ch) l1 c1 k1) X hP
  have D1:DefAt (Ad K (tS P)) mg "_law_tape" Ch _ _ ["_law_script"]:=⟨F1,PySem.W.mg_of X G a1,F1.binds (ps:=["_law_script"]) λ _ _ _ _ _ _ us hl=>match us,hl with | [_],_=>rfl⟩
  have F2:=Fun.mark (ts:=tS P) (Ba (st:=C7) l2 c2 k2) X hP
  have D2:DefAt (Ad K (tS P)) mg "_law_pick" C7 _ _ ["_law_tape_here","_law_many"]:=⟨F2,PySem.W.mg_of X G a2,F2.binds (ps:=["_law_tape_here","_law_many"]) λ _ _ _ _ _ _ us hl=>match us,hl with | [_,_],_=>rfl⟩
  have F3:=Fun.mark (ts:=tS P) (Ba (st:=Cj) l3 c3 k3) X hP
  have D3:DefAt (Ad K (tS P)) mg "_law_cost" Cj _ _ ["_law_tape_here","_law_way"]:=⟨F3,PySem.W.mg_of X G a3,F3.binds (ps:=["_law_tape_here","_law_way"]) λ _ _ _ _ _ _ us hl=>match us,hl with | [_,_],_=>rfl⟩
  have F4:=Fun.mark (ts:=tS P) (Ba (st:=Ci) l4 c4 k4) X hP
  have D4:DefAt (Ad K (tS P)) mg "_law_days" Ci _ _ ["_law_tape_here"]:=⟨F4,PySem.W.mg_of X G a4,F4.binds (ps:=["_law_tape_here"]) λ _ _ _ _ _ _ us hl=>match us,hl with | [_],_=>rfl⟩
  have F5:=Fun.mark (ts:=tS P) (Ba (st:=BY) l5 c5 k5) X hP
  have D5:DefAt (Ad K (tS P)) mg "steps_at" BY _ _ ["rows","t"]:=⟨F5,PySem.W.mg_of X G a5,F5.binds (ps:=["rows","t"]) λ _ _ _ _ _ _ us hl=>match us,hl with | [_,_],_=>rfl⟩
  have F6:=Fun.mark (ts:=tS P) (Ba (st:=Bl) l6 c6 k6) X hP
  have D6:DefAt (Ad K (tS P)) mg "cost_at" Bl _ _ ["cost","t"]:=⟨F6,PySem.W.mg_of X G a6,F6.binds (ps:=["cost","t"]) λ _ _ _ _ _ _ us hl=>match us,hl with | [_,_],_=>rfl⟩
  have F7:=Fun.mark (ts:=tS P) (Ba (st:=Ax) l7 c7 k7) X hP
  have D7:DefAt (Ad K (tS P)) mg "later_due" Ax _ _ ["cost","days"]:=⟨F7,PySem.W.mg_of X G a7,F7.binds (ps:=["cost","days"]) λ _ _ _ _ _ _ us hl=>match us,hl with | [_,_],_=>rfl⟩
  have F8:=Fun.mark (ts:=tS P) (Ba (st:=B5) l8 c8 k8) X hP
  have D8:DefAt (Ad K (tS P)) mg "moved_cost" B5 _ _ ["cost","days"]:=⟨F8,PySem.W.mg_of X G a8,F8.binds (ps:=["cost","days"]) λ _ _ _ _ _ _ us hl=>match us,hl with | [_,_],_=>rfl⟩
  have F9:=Fun.mark (ts:=tS P) (Ba (st:=Cg) l9 c9 k9) X hP
  have D9:DefAt (Ad K (tS P)) mg "_law_told" Cg _ _ ["_law_way","_law_cost_here","_law_days_here"]:=⟨F9,PySem.W.mg_of X G a9,F9.binds (ps:=["_law_way","_law_cost_here","_law_days_here"]) λ _ _ _ _ _ _ us hl=>match us,hl with | [_,_,_],_=>rfl⟩
  have F10:=Fun.mark (ts:=tS P) (Ba (st:=DZ) l10 c10 k10) X hP
  have D10:DefAt (Ad K (tS P)) mg "_law_due" DZ _ _ ["_law_way","_law_cost_here","_law_days_here"]:=⟨F10,PySem.W.mg_of X G a10,F10.binds (ps:=["_law_way","_law_cost_here","_law_days_here"]) λ _ _ _ _ _ _ us hl=>match us,hl with | [_,_,_],_=>rfl⟩
  have F11:=Fun.mark (ts:=tS P) (Ba (st:=CJ) l11 c11 k11) X hP
  have D11:DefAt (Ad K (tS P)) mg "_law_marks" CJ _ _ ["_law_cost_here"]:=⟨F11,PySem.W.mg_of X G a11,F11.binds (ps:=["_law_cost_here"]) λ _ _ _ _ _ _ us hl=>match us,hl with | [_],_=>rfl⟩
  have F12:=Fun.mark (ts:=tS P) (Ba (st:=CI) l12 c12 k12) X hP
  have D12:DefAt (Ad K (tS P)) mg "_law_right" CI _ _ ["_law_cost_here","_law_days_here","_law_more"]:=⟨F12,PySem.W.mg_of X G a12,F12.binds (ps:=["_law_cost_here","_law_days_here","_law_more"]) λ _ _ _ _ _ _ us hl=>match us,hl with | [_,_,_],_=>rfl⟩
  have B:BltA mg:=⟨PySem.W.mg_none_of X G z_list,PySem.W.mg_none_of X G z_tuple,PySem.W.mg_none_of X G z_len,PySem.W.mg_none_of X G z_range,PySem.W.mg_none_of X G z_repr,PySem.W.mg_none_of X G z_sum,PySem.W.mg_none_of X G z_min,PySem.W.mg_none_of X G z_max,PySem.W.mg_none_of X G z_abs,PySem.W.mg_none_of X G z_all,PySem.W.mg_none_of X G z_any,PySem.W.mg_none_of X G z_sorted,PySem.W.mg_none_of X G z_zip,PySem.W.mg_none_of X G z_isinstance,PySem.W.mg_none_of X G z_int,PySem.W.mg_none_of X G z_bool,PySem.W.mg_none_of X G z_str,PySem.W.mg_none_of X G z_set,PySem.W.mg_none_of X G z_enumerate,PySem.W.mg_none_of X G z_reversed,PySem.W.mg_none_of X G z_dict⟩
  have LE:=O3 (ts:=tS P) X hP
  have xc:XC (Ad K (tS P)) C fI:=LE.xc ⟨_,_,li,rfl⟩ ⟨⟨_,_,_,_,_,_,_,_,_,_,_,_,_,_,_,lC,ov⟩,fi,fn,kp,sa,ga,gx⟩
  have FI:=Fun.mark (ts:=tS P) (Ba (st:=Dq) li ci ki) X hP
  have bI:=FI.binds (ps:=["self","word"]) λ _ _ _ _ _ _ us hl=>match us,hl with | [_,_],_=>rfl

  have nd:((EQ (Ad K (tS P))).map (·.1)).Nodup:=by rw[GV];simp
  have hg:∃ g,K.lookup mainGlobals=some g:=by
    cases e:K.lookup mainGlobals with
    | some g=>exact⟨g,rfl⟩
    | none=>have z:=a0;unfold PySem.W.nsIn at z;rw[e]at z;cases z
  refine⟨hg,PySem.W.fnOf "law" "law" (Aq Ce) (Af Ce) (AC Ce) .none kV0 dc0 pm0 an0 cd0 ct0,λ s v=>.of_eq rfl,λ base _ _ hd bl=>?_⟩

  have EX:ExcW l.prog w (Ad K (tS P)) mg base C Bc fI cx1 cx2 cx3 cx4 cx5 cx6 cx7 _:=⟨xc,LE.xi ⟨ca,gd,tk,mo⟩,LE.noAttr na,PySem.W.mg_of X G xC,PySem.W.mg_of X G xB,PySem.W.mg_none_of X G xV,LE.exm kx1,LE.kitOne kx2,LE.kitAny kx3,PySem.W.mg_of X G x1,PySem.W.mg_of X G x2,PySem.W.mg_of X G x3,PySem.W.mg_of X G x4,PySem.W.mg_of X G x5,PySem.W.mg_of X G x6,PySem.W.mg_of X G x7,T04.ok_ini FI xc (LE.noAttr na),bI⟩
  have G_tape:=T04.ok_tape (P:=l.prog) (w:=w) (base:=base) D1  B
  have G_pick:=T04.ok_pick (P:=l.prog) (w:=w) (base:=base) D2  B
  have G_cost:=T04.ok_cost (P:=l.prog) (w:=w) (base:=base) D3 D2 G_pick B
  have G_days:=T04.ok_days (P:=l.prog) (w:=w) (base:=base) D4 D2 G_pick B
  have G_steps_at:=T04.ok_steps_at (P:=l.prog) (w:=w) (base:=base) D5  B
  have G_cost_at:=T04.ok_cost_at (P:=l.prog) (w:=w) (base:=base) D6 D5 G_steps_at B
  have G_later_due:=T04.ok_later_due (P:=l.prog) (w:=w) (base:=base) D7  B
  have GX_later_due:=T04.okx_later_due (P:=l.prog) (w:=w) (base:=base) D7  EX  B
  have G_moved_cost:=T04.ok_moved_cost (P:=l.prog) (w:=w) (base:=base) D8 D7 G_later_due B
  have GX_moved_cost:=T04.okx_moved_cost (P:=l.prog) (w:=w) (base:=base) D8 D7 G_later_due EX GX_later_due B
  have G_told:=T04.ok_told (P:=l.prog) (w:=w) (base:=base) D9 D7 G_later_due D8 G_moved_cost EX GX_later_due GX_moved_cost B
  have G_due:=T04.ok_due (P:=l.prog) (w:=w) (base:=base) D10  B
  have G_marks:=T04.ok_marks (P:=l.prog) (w:=w) (base:=base) D11  B
  have G_right:=T04.ok_right (P:=l.prog) (w:=w) (base:=base) D12 D6 G_cost_at D9 G_told D10 G_due D11 G_marks B
  have G_law:=T04.ok_law (P:=l.prog) (w:=w) (base:=base) D0 D1 G_tape D2 G_pick D3 G_cost D4 G_days D12 G_right B
  exact G_law
end T04
open PySem PySem.W PyProof.Rows
set_option maxRecDepth 100000 in
set_option maxHeartbeats 0 in
theorem PySem.Challenge.cw_benchdays_k04_costs_moved_holds : PySem.Challenge.rw_benchdays_k04_costs_moved.Holds := by
  w_on;o_law;k_head;(case hw=>w_witness2)
  k_fill
  refine L2.walkL T04.xS (l:=PySem.Challenge.rw_benchdays_k04_costs_moved) (n:=63) (k:=7) (F:=T04.F_law) rfl (by decide) rfl ⟨rfl,by decide,by decide,rfl⟩ (by intro x hx;cases hx) T04.law_eq (λ w h Y=>PySem.W.kIn_of Y) ?F
  case F=>
    intro w mg fa h c P KX G hmg hx
    refine' T04.all_mk KX G hmg hx ?a0 ?l0 ?c0 ?k0 ?a1 ?l1 ?c1 ?k1 ?a2 ?l2 ?c2 ?k2 ?a3 ?l3 ?c3 ?k3 ?a4 ?l4 ?c4 ?k4 ?a5 ?l5 ?c5 ?k5 ?a6 ?l6 ?c6 ?k6 ?a7 ?l7 ?c7 ?k7 ?a8 ?l8 ?c8 ?k8 ?a9 ?l9 ?c9 ?k9 ?a10 ?l10 ?c10 ?k10 ?a11 ?l11 ?c11 ?k11 ?a12 ?l12 ?c12 ?k12 ?z_list ?z_tuple ?z_len ?z_range ?z_repr ?z_sum ?z_min ?z_max ?z_abs ?z_all ?z_any ?z_sorted ?z_zip ?z_isinstance ?z_int ?z_bool ?z_str ?z_set ?z_enumerate ?z_reversed ?z_dict ?xC ?xB ?x1 ?x2 ?x3 ?x4 ?x5 ?x6 ?x7 ?xV ?fi ?ki ?fn ?kp ?sa ?ga ?gx ?na ?ca ?gd ?tk ?mo ?lC ?ov ?li ?ci ?kx1 ?kx2 ?kx3
    (case a0=>k_is)
    (case l0=>k_is)
    (case c0=>k_is)
    (case k0=>k_is)
    (case a1=>k_is)
    (case l1=>k_is)
    (case c1=>k_is)
    (case k1=>k_is)
    (case a2=>k_is)
    (case l2=>k_is)
    (case c2=>k_is)
    (case k2=>k_is)
    (case a3=>k_is)
    (case l3=>k_is)
    (case c3=>k_is)
    (case k3=>k_is)
    (case a4=>k_is)
    (case l4=>k_is)
    (case c4=>k_is)
    (case k4=>k_is)
    (case a5=>k_is)
    (case l5=>k_is)
    (case c5=>k_is)
    (case k5=>k_is)
    (case a6=>k_is)
    (case l6=>k_is)
    (case c6=>k_is)
    (case k6=>k_is)
    (case a7=>k_is)
    (case l7=>k_is)
    (case c7=>k_is)
    (case k7=>k_is)
    (case a8=>k_is)
    (case l8=>k_is)
    (case c8=>k_is)
    (case k8=>k_is)
    (case a9=>k_is)
    (case l9=>k_is)
    (case c9=>k_is)
    (case k9=>k_is)
    (case a10=>k_is)
    (case l10=>k_is)
    (case c10=>k_is)
    (case k10=>k_is)
    (case a11=>k_is)
    (case l11=>k_is)
    (case c11=>k_is)
    (case k11=>k_is)
    (case a12=>k_is)
    (case l12=>k_is)
    (case c12=>k_is)
    (case k12=>k_is)
    (case z_list=>k_is)
    (case z_tuple=>k_is)
    (case z_len=>k_is)
    (case z_range=>k_is)
    (case z_repr=>k_is)
    (case z_sum=>k_is)
    (case z_min=>k_is)
    (case z_max=>k_is)
    (case z_abs=>k_is)
    (case z_all=>k_is)
    (case z_any=>k_is)
    (case z_sorted=>k_is)
    (case z_zip=>k_is)
    (case z_isinstance=>k_is)
    (case z_int=>k_is)
    (case z_bool=>k_is)
    (case z_str=>k_is)
    (case z_set=>k_is)
    (case z_enumerate=>k_is)
    (case z_reversed=>k_is)
    (case z_dict=>k_is)
    (case xC=>k_is)
    (case xB=>k_is)
    (case x1=>k_is)
    (case x2=>k_is)
    (case x3=>k_is)
    (case x4=>k_is)
    (case x5=>k_is)
    (case x6=>k_is)
    (case x7=>k_is)
    (case xV=>k_is)
    (case fi=>k_is)
    (case ki=>k_is)
    (case fn=>k_is)
    (case kp=>k_is)
    (case sa=>k_is)
    (case ga=>k_is)
    (case gx=>k_is)
    (case na=>k_is)
    (case ca=>k_is)
    (case gd=>k_is)
    (case tk=>k_is)
    (case mo=>k_is)
    (case lC=>k_is)
    (case ov=>exact .own .base)
    (case li=>k_is)
    (case ci=>k_is)
    (case kx1=>kernel_rfl)
    (case kx2=>kernel_rfl)
    (case kx3=>kernel_rfl)
