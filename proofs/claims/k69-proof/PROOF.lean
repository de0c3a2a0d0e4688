import PyProof.Rows.All
import Wide.All
import OpenK.AllK
import Wide.FinOn
import Lean
import PyProof.EqAt
import PyProof.EqKinds
import PyProof.TupleCall
import KE.KSortKey
import PyProof.ListMulRoad
import PyProof.Draws
import PyProof.EnumMake
import PyProof.ListNew
import KE.KRevIter
import KE.KMinKey
import PySem.Challenge.RW_benchdays_k69_whole_lengths_and_weights
set_option Elab.async false
set_option linter.all false
set_option maxRecDepth 100000
set_option compiler.extract_closed false
local macro_rules | `(tactic| omega) => `(tactic| first | lia | omega (config := {}))
namespace L2
open PySem PySem.Spec PyProof.Rows
noncomputable abbrev Key:=Sum Int Str
noncomputable def Sd:Key->Value->Bool
  | .inl k,v=>Value.isInt k v
  | .inr x,v=>Value.isStrOf x v
noncomputable def YE(w:World):Key->Int
  | .inl k=>hashInt k
  | .inr x=>hashStr w x
theorem Bs:∀ {k:Key} {v:Value},Sd k v=true->(∃ i t,k=Sum.inl i/\v=Value.int i t) ∨ (∃ x t,k=Sum.inr x/\v=Value.str x t)
  | .inl i,v,h=>by
    obtain⟨t,e⟩:=Value.isInt_shape (k:=i) (v:=v) h
    exact .inl ⟨i,t,rfl,e⟩
  | .inr x,v,h=>by
    obtain⟨t,e⟩:=Value.isStrOf_shape (x:=x) (v:=v) h
    exact .inr ⟨x,t,rfl,e⟩
theorem WH(a b:Int):decide ((Sum.inl a:Key)=Sum.inl b)=(a == b):=by
  by_cases e:a=b
  . subst e;simp
  . have h:¬ (Sum.inl a:Key)=Sum.inl b:=λ q=>e (Sum.inl.inj q)
    rw[decide_eq_false h]
    exact(beq_eq_false_iff_ne.mpr e).symm
theorem WC(a b:Str):decide ((Sum.inr a:Key)=Sum.inr b)=decide (a=b):=by
  by_cases e:a=b
  . subst e;simp
  . have h:¬ (Sum.inr a:Key)=Sum.inr b:=λ q=>e (Sum.inr.inj q)
    rw[decide_eq_false h,decide_eq_false e]
theorem WG(a:Int)(b:Str):decide ((Sum.inl a:Key)=Sum.inr b)=false:=decide_eq_false (λ q=>nomatch q)
theorem WD(a:Str)(b:Int):decide ((Sum.inr a:Key)=Sum.inl b)=false:=decide_eq_false (λ q=>nomatch q)
noncomputable def Jr(prog:Program)(w:World):PySem.KeyKind prog w Key where
  is:=Sd
  hash:=YE w
  inj:=λ v a b ha hb=>by
    rcases Bs ha with⟨i,t,rfl,rfl⟩|⟨x,t,rfl,rfl⟩
    . rcases Bs hb with⟨j,u,rfl,e⟩|⟨y,u,rfl,e⟩
      . injection e with e1 _;rw[e1]
      . exact nomatch e
    . rcases Bs hb with⟨j,u,rfl,e⟩|⟨y,u,rfl,e⟩
      . exact nomatch e
      . injection e with e1 _;rw[e1]
  byValue:=λ k v h=>by
    rcases Bs h with⟨i,t,rfl,rfl⟩|⟨x,t,rfl,rfl⟩ <;> rfl
  pyHash:=λ hv h=>by
    rcases Bs hv with⟨i,t,rfl,rfl⟩|⟨x,t,rfl,rfl⟩
    . exact wpAny_pyHash_int h
    . exact wpAny_pyHash_str h
  eqBool:=λ hu hv h=>by
    rcases Bs hu with⟨i,t,rfl,rfl⟩|⟨x,t,rfl,rfl⟩
    . rcases Bs hv with⟨j,u,rfl,rfl⟩|⟨y,u,rfl,rfl⟩
      . rw[WH]at h;exact wpAny_eqBool_int h
      . rw[WG]at h;exact SeqAt.EqAt.int_str i t y u _ _ _ _ h
    . rcases Bs hv with⟨j,u,rfl,rfl⟩|⟨y,u,rfl,rfl⟩
      . rw[WD]at h;exact SeqAt.EqAt.str_int x t j u _ _ _ _ h
      . rw[WC]at h;exact wpAny_eqBool_str h
  «strs»:=λ k x t v h=>by
    rcases Bs h with⟨i,u,rfl,e⟩|⟨y,u,rfl,e⟩
    . exact nomatch e
    . injection e with e1 _
      subst e1
      cases v <;> rfl
end L2
namespace L2
open PySem PySem.Spec PyProof.Rows
inductive V where
  | non|bl (b:Bool)|int (i:Int)|str (x:Str)|byt (b:Array UInt8)|flt (b:UInt64)|ref (a:Addr)|ty (n:String)
  deriving DecidableEq
noncomputable def RelV:V->Value->Prop
  | .non,u=>u=Value.none
  | .bl b,u=>u=Value.bool b
  | .int i,u=>∃ t,u=Value.int i t
  | .str x,u=>∃ t,u=Value.str x t
  | .byt b,u=>∃ t,u=Value.bytes b t
  | .flt b,u=>∃ t,u=Value.float b t
  | .ref a,u=>u=Value.ref a
  | .ty n,u=>u=Value.type n
noncomputable abbrev Vals:List V->List Value->Prop:=Paired RelV
theorem Vals.length{xs:List V}{us:List Value}(r:Vals xs us):xs.length=us.length:=Paired.length r
theorem Vals.get:∀ {xs:List V} {us:List Value} {i:Nat} {x:V},Vals xs us->xs[i]? = some x->∃ u,us[i]? = some u/\RelV x u
  | _,_,_,_,.nil,e=>by simp at e
  | _,_,0,_,.cons r _,e=>by simp at e;subst e;exact⟨_,rfl,r⟩
  | _,_,i + 1,x,.cons _ t,e=>by
    obtain⟨u,h1,h2⟩:=Vals.get (i:=i) (x:=x) t (by simpa using e)
    exact⟨u,by simpa using h1,h2⟩
theorem Vals.set{x:V}{u:Value}(r:RelV x u):∀ {xs:List V} {us:List Value} (i:Nat),Vals xs us->Vals (xs.set i x) (us.set i u)
  | _,_,_,.nil=>.nil
  | _,_,0,.cons _ t=>.cons r t
  | _,_,i + 1,.cons q t=>.cons q (Vals.set r i t)
theorem Vals.append:∀ {xs ys:List V} {us ws:List Value},Vals xs us->Vals ys ws->Vals (xs ++ ys) (us ++ ws)
  | _,_,_,_,.nil,s=>s
  | _,_,_,_,.cons r t,s=>.cons r (Vals.append t s)
theorem Vals.take:∀ {xs:List V} {us:List Value} (n:Nat),Vals xs us->Vals (xs.take n) (us.take n)
  | _,_,0,_=>.nil
  | _,_,_ + 1,.nil=>.nil
  | _,_,n + 1,.cons r t=>.cons r (Vals.take n t)
theorem Vals.drop:∀ {xs:List V} {us:List Value} (n:Nat),Vals xs us->Vals (xs.drop n) (us.drop n)
  | _,_,0,r=>r
  | _,_,_ + 1,.nil=>.nil
  | _,_,n + 1,.cons _ t=>Vals.drop n t
noncomputable def Wx:Option V->Option Value->Prop
  | some v,some u=>RelV v u
  | none,none=>True
  | _,_=>False
noncomputable def KV{κ:Type}:List (κ × V)->List (κ × Value)->Prop:=Paired λ(p:κ × V) (q:κ × Value)=>p.1=q.1/\RelV p.2 q.2
noncomputable def kV:Key->V
  | .inl i=>.int i
  | .inr x=>.str x
inductive HO where
  /-- a list -/
  | lst (xs:List V)
  /-- a tuple (never changes) -/
  | tup (xs:List V)
  /-- a dict whose keys are ints and texts;one whose keys are tuples of ints and texts (the empty one is both) -/
  | dK (kvs:List (Key × V))|dT (kvs:List (List Key × V))
  /-- a set of ints: its members,its size -/
  | set (S:Int->Bool) (n:Nat)
  /-- an instance of the class at C,its dict at dx,its attributes -/
  | ins (C dx:Addr) (fs:List (Str × V))
  /-- the dict of the instance at x -/
  | own (x:Addr)
  /-- the dict of an exception -/
  | xd (fs:List (Str × V))
  /-- a bound method,f of x -/
  | met (f x:Addr)
  /-- a range object lo,lo + 1,.. below hi -/
  | rng (lo hi:Int)
  /-- a thing that is known to the object (the script;a dict while a loop walks it): read,never written while it is so -/
  | frz (o:Obj) (u:HO)
  /-- a code object's table -/
  | tbl (ps:Array Value)
  /-- any other thing,by what is true of its one object (a def of one's own: SetO a S n:=HO.ext λ h=>..) -/
  | ext (φ:Heap->Prop)
noncomputable abbrev Hp:=Addr->Option HO
noncomputable def upd(H:Hp)(a:Addr)(o:HO):Hp:=λ b=>if b=a then some o else H b
theorem Am{H:Hp}{a:Addr}{o:HO}:upd H a o a=some o:=by unfold upd;rw[if_pos rfl]
theorem AR{H:Hp}{a b:Addr}{o:HO}(h:b ≠ a):upd H a o b=H b:=by unfold upd;rw[if_neg h]
theorem Ap{H:Hp}{a b:Addr}{o:HO}(h:H a=some o)(h':H b=none):a ≠ b:=by
  intro e;subst e;rw[h]at h';cases h'
noncomputable def IsTupD(h:Heap)(a:Addr)(items:Array Value):Prop:=∃ o,h.get? a=some o/\o.cls=.type "tuple"/\(∃ n,o.data=.seq items n)/\o.dict=none
theorem IsTupD.t{h:Heap}{a:Addr}{items:Array Value}(x:IsTupD h a items):IsTup h a items:=let ⟨o,e,c,d,_⟩:=x;⟨o,e,c,d⟩
theorem IsTupD.new(h:Heap)(items:Array Value):IsTupD (h.push { cls:=.type "tuple",data:=.seq items }) h.objs.size items:=⟨_,Heap.get?_push_size _ rfl,rfl,⟨_,rfl⟩,rfl⟩
section
variable(P:Program)(w:World)
noncomputable def ObjOk(H:Hp)(h:Heap)(a:Addr):HO->Prop
  | .lst xs=>xs.length <= sizeLine/\∃ (its:List Value) (n:Nat),Vals xs its/\h.get? a=some { cls:=.type "list",data:=.seq its.toArray n }
  | .tup xs=>xs.length <= sizeLine/\∃ its:List Value,Vals xs its/\IsTupD h a its.toArray
  | .dK kvs=>kvs.length <= sizeLine/\(a == sysModules)=false/\∃ vs,KV kvs vs/\h.DictOf (Jr P w) a vs
  | .dT kvs=>kvs.length <= sizeLine/\(a == sysModules)=false/\∃ xs:List (List Key × Addr × Value),
      Paired (λ(p:List Key × V) (q:List Key × Addr × Value)=>p.1=q.1/\H q.2.1=some (.tup (p.1.map kV))/\RelV p.2 q.2.2) kvs xs /\
      ∃ o es ep,h.get? a=some o/\o.ExactDict/\o.data=.dict es ep/\es.toList=xs.map (entryOfKey (tupleKind (Jr P w)))/\(xs.map (·.1)).Nodup
  | .set S n=>h.SetOf (intKind P w) a S n
  | .ins C dx fs=>H dx=some (.own a)/\fs.length <= 1000/\dx ≠ a/\h.get? a=some (PySem.W.instObj C dx) /\
      ∃ mA,h.Ns1 dx mA/\(∀ f,Wx (fs.lookup f) (mA f))/\PySem.Within mA (fs.map (·.1))
  | .own _=>∃ o,h.get? a=some o
  | .xd fs=>∃ mA,h.Ns1 a mA/\∀ f,Wx (fs.lookup f) (mA f)
  | .rng lo hi=>∃ t u v,h.get? a=some { cls:=.type "range",data:=.fields #[.int lo t,.int hi u,.int 1 v] }
  | .frz o u=>h.get? a=some o/\ObjOk H h a u
  | .tbl ps=>h.get? a=some { cls:=.none,data:=.fields ps }
  | .met f x=>h.get? a=some (PySem.W.methodObj (.ref f) (.ref x))
  | .ext φ=>φ h/\(∃ o,h.get? a=some o)/\∀ h1 h2:Heap,φ h1->(∀ o,h1.get? a=some o->h2.get? a=some o)->φ h2
noncomputable def HOk(H:Hp)(h:Heap):Prop:=∀ a o,H a=some o->ObjOk P w H h a o
end
section
variable{P:Program}{w:World}{H H':Hp}{h h':Heap}{a:Addr}{o:HO}
theorem ObjOk.lt(x:ObjOk P w H h a o):a < h.objs.size:=by
  cases o with
  | lst xs=>obtain⟨_,_,_,_,e⟩:=x;exact Heap.lt_size e
  | tup xs=>obtain⟨_,_,_,o,e,_⟩:=x;exact Heap.lt_size e
  | dK kvs=>obtain⟨_,_,_,_,o,_,_,e,_⟩:=x;exact Heap.lt_size e
  | dT kvs=>obtain⟨_,_,_,_,o,_,_,e,_⟩:=x;exact Heap.lt_size e
  | set S n=>obtain⟨o,_,_,_,e,_⟩:=x;exact Heap.lt_size e
  | ins C dx fs=>obtain⟨_,_,_,e,_⟩:=x;exact Heap.lt_size e
  | own y=>obtain⟨_,e⟩:=x;exact Heap.lt_size e
  | xd fs=>obtain⟨_,⟨_,_,_,e,_⟩,_⟩:=x;exact Heap.lt_size e
  | rng lo hi=>obtain⟨_,_,_,e⟩:=x;exact Heap.lt_size e
  | frz ob u=>obtain⟨e,_⟩:=x;exact Heap.lt_size e
  | tbl ps=>exact Heap.lt_size (show h.get? a=some _ from x)
  | met f y=>exact Heap.lt_size (show h.get? a=some _ from x)
  | ext φ=>obtain⟨_,⟨_,e⟩,_⟩:=x;exact Heap.lt_size e
theorem Paired.mapP{α β:Type}{F G:α->β->Prop}:∀ {l₁:List α} {l₂:List β},Paired F l₁ l₂->(∀ a b,F a b->G a b)->Paired G l₁ l₂
  | _,_,.nil,_=>.nil
  | _,_,.cons r t,f=>.cons (f _ _ r) (Paired.mapP t f)
theorem ObjOk.stay(x:ObjOk P w H h a o)(k:∀ b u,(b=a ∨ H b=some (.own a))->h.get? b=some u->h'.get? b=some u)
    (ho:∀ b,H b=some (.own a)->H' b=some (.own a)) (ht:∀ b xs,H b=some (.tup xs)->H' b=some (.tup xs)):ObjOk P w H' h' a o:=by
  induction o with
  | lst xs=>obtain⟨z,its,n,r,e⟩:=x;exact⟨z,its,n,r,k _ _ (.inl rfl) e⟩
  | tup xs=>obtain⟨z,its,r,ob,e,c⟩:=x;exact⟨z,its,r,ob,k _ _ (.inl rfl) e,c⟩
  | dK kvs=>obtain⟨z,y,vs,r,ob,es,ep,e,c⟩:=x;exact⟨z,y,vs,r,ob,es,ep,k _ _ (.inl rfl) e,c⟩
  | dT kvs=>
    obtain⟨z,y,xs,r,ob,es,ep,e,c⟩:=x
    exact⟨z,y,xs,Paired.mapP r λ p q z=>⟨z.1,ht _ _ z.2.1,z.2.2⟩,ob,es,ep,k _ _ (.inl rfl) e,c⟩
  | set S n=>obtain⟨ob,es,ep,t,e,c⟩:=x;exact⟨ob,es,ep,t,k _ _ (.inl rfl) e,c⟩
  | ins C dx fs=>
    obtain⟨d,z,ne,e,mA,⟨od,es,ep,e2,c⟩,r⟩:=x
    exact⟨ho _ d,z,ne,k _ _ (.inl rfl) e,mA,⟨od,es,ep,k _ _ (.inr d) e2,c⟩,r⟩
  | own y=>obtain⟨ob,e⟩:=x;exact⟨ob,k _ _ (.inl rfl) e⟩
  | xd fs=>obtain⟨mA,⟨od,es,ep,e,c⟩,r⟩:=x;exact⟨mA,⟨od,es,ep,k _ _ (.inl rfl) e,c⟩,r⟩
  | rng lo hi=>obtain⟨t,u,v,e⟩:=x;exact⟨t,u,v,k _ _ (.inl rfl) e⟩
  | frz ob u ih=>obtain⟨e,q⟩:=x;exact⟨k _ _ (.inl rfl) e,ih q⟩
  | tbl ps=>
    have e:h.get? a=some { cls:=.none,data:=.fields ps }:=x
    show h'.get? a=some { cls:=.none,data:=.fields ps }
    exact k a _ (.inl rfl) e
  | met f y=>
    have e:h.get? a=some (PySem.W.methodObj (.ref f) (.ref y)):=x
    show h'.get? a=some (PySem.W.methodObj (.ref f) (.ref y))
    exact k a _ (.inl rfl) e
  | ext φ=>obtain⟨p,⟨o,e⟩,st⟩:=x;exact⟨st _ _ p λ o q=>k _ _ (.inl rfl) q,⟨o,k _ _ (.inl rfl) e⟩,st⟩
theorem HOk.lt(x:HOk P w H h)(e:H a=some o):a < h.objs.size:=(x a o e).lt
theorem HOk.fresh(x:HOk P w H h)(e:h.objs.size <= a):H a=none:=by
  cases q:H a with
  | none=>rfl
  | some u=>exact absurd (Nat.lt_of_lt_of_le (x.lt q) e) (Nat.lt_irrefl _)
theorem HOk.kept(x:HOk P w H h)(k:∀ b u,h.get? b=some u->h'.get? b=some u):HOk P w H h':=λ a o e=>
  (x a o e).stay (λ b u _ q=>k b u q) (λ _ q=>q) λ _ _ q=>q
theorem HOk.laid(x:HOk P w H h)(k:∀ b u,h.get? b=some u->h'.get? b=some u)(hp:h.objs.size <= a)(new:ObjOk P w (upd H a o) h' a o):HOk P w (upd H a o) h':=λ b u e=>by
  have hn:=x.fresh hp
  by_cases hb:b=a
  . subst hb;rw[Am]at e;cases e;exact new
  . rw[AR hb]at e
    exact(x b u e).stay (λ c v _ q=>k c v q) (λ c q=>by rw[AR (Ap q hn)];exact q) λ c xs q=>by rw[AR (Ap q hn)];exact q
end
noncomputable def Rd(H:Hp)(a:Addr)(u:HO):Prop:=H a=some u ∨ ∃ o,H a=some (.frz o u)
theorem Rd.ok{P:Program}{w:World}{H:Hp}{h:Heap}{a:Addr}{u:HO}(r:Rd H a u)(x:HOk P w H h):ObjOk P w H h a u:=by
  rcases r with r|⟨o,r⟩
  . exact x a u r
  . obtain⟨_,q⟩:=x a _ r
    exact q
noncomputable def Mut:Option HO->Prop
  | some (.lst _)=>True
  | some (.dK _)=>True
  | some (.dT _)=>True
  | some (.set _ _)=>True
  | some (.ins _ _ _)=>True
  | some (.ext _)=>True
  | _=>False
section
variable{P:Program}{w:World}{H:Hp}{h h':Heap}{x e:Addr}{o':HO}
theorem HOk.write(ok:HOk P w H h)(mu:Mut (H x))(he:e=x ∨ H e=some (.own x))(k:∀ b u,b ≠ e->h.get? b=some u->h'.get? b=some u)(heo:∃ u,h'.get? e=some u)
    (new:ObjOk P w (upd H x o') h' x o'):HOk P w (upd H x o') h':=λ b u q=>by
  have nown:∀ c y,H c=some (.own y)->c ≠ x:=λ c y r z=>by subst z;rw[r]at mu;exact mu
  have ntup:∀ c xs,H c=some (.tup xs)->c ≠ x:=λ c xs r z=>by subst z;rw[r]at mu;exact mu
  by_cases hb:b=x
  . subst hb;rw[Am]at q;cases q;exact new
  . rw[AR hb]at q
    by_cases hbe:b=e
    . have q':H b=some (.own x):=by
        rcases he with z|z
        . exact absurd (hbe.trans z) hb
        . rw[hbe];exact z
      rw[q]at q';cases q'
      obtain⟨v,hv⟩:=heo
      exact⟨v,by rw[hbe];exact hv⟩
    . refine(ok b u q).stay (λ c v hc r=>k c v ?_ r) (λ c r=>by rw[AR (nown c b r)];exact r) λ c xs r=>by rw[AR (ntup c xs r)];exact r
      rcases hc with rfl|hc
      . exact hbe
      . rintro rfl
        rcases he with z|z
        . exact nown c b hc z
        . rw[hc]at z;cases z;exact hb rfl
end
structure Un(fs ex:List Addr)(H H':Hp)(h h':Heap):Prop where
  keep:∀ b o,h.get? b=some o->H b=none->b ∉ fs->b ∉ ex->h'.get? b=some o
  slot:∀ b o,h.get? b=some o->H b=none->b ∈ fs->b ∉ ex->∃ sl,h'.get? b=some { o with slots:=sl }
  free:∀ b o,h.get? b=some o->H b=none->b ∉ ex->H' b=none
  there:∀ b o,h.get? b=some o->b ∉ ex->∃ o',h'.get? b=some o'
  tups:∀ b xs,H b=some (.tup xs)->H' b=some (.tup xs)
  frzs:∀ b o u,H b=some (.frz o u)->H' b=some (.frz o u)
  tbls:∀ b ps,H b=some (.tbl ps)->∃ more,H' b=some (.tbl (ps ++ more))
section
variable{fs fs' ex ex':List Addr}{H H1 H2:Hp}{h h1 h2 h':Heap}{a x e:Addr}{o:HO}
theorem Un.any(u:Un fs ex H H1 h h1){b:Addr}{ob:Obj}(q:h.get? b=some ob)(n:H b=none)(hx:b ∉ ex):∃ sl,h1.get? b=some { ob with slots:=sl }:=by
  by_cases hb:b ∈ fs
  . exact u.slot b ob q n hb hx
  . exact⟨ob.slots,u.keep b ob q n hb hx⟩
theorem Un.kept(k:∀ b u,h.get? b=some u->h'.get? b=some u):Un fs ex H H h h':=
  ⟨λ b ob q _ _ _=>k b ob q,λ b ob q _ _ _=>⟨ob.slots,k b ob q⟩,λ _ _ _ n _=>n,λ b ob q _=>⟨ob,k b ob q⟩,λ _ _ q=>q,λ _ _ _ q=>q,λ _ ps q=>⟨#[],by rw[q];simp⟩⟩
theorem Un.refl:Un fs ex H H h h:=Un.kept λ _ _ q=>q
theorem Un.laid(k:∀ b u,h.get? b=some u->h'.get? b=some u)(hp:h.objs.size <= a)(hn:H a=none):Un fs ex H (upd H a o) h h' where
  keep:=λ b u q _ _ _=>k b u q
  slot:=λ b u q _ _ _=>⟨u.slots,k b u q⟩
  free:=λ b u q n _=>by rw[AR (Nat.ne_of_lt (Nat.lt_of_lt_of_le (Heap.lt_size q) hp))];exact n
  there:=λ b u q _=>⟨u,k b u q⟩
  tups:=λ b xs q=>by rw[AR (Ap q hn)];exact q
  frzs:=λ b u xs q=>by rw[AR (Ap q hn)];exact q
  tbls:=λ b ps q=>⟨#[],by rw[AR (Ap q hn),q];simp⟩
theorem Un.write(mu:Mut (H x))(he:e=x ∨ H e=some (.own x))(k:∀ b u,b ≠ e->h.get? b=some u->h'.get? b=some u)(heo:∃ u,h'.get? e=some u):Un fs ex H (upd H x o) h h':=by
  have hx:∀ b,H b=none->b ≠ x:=λ b n z=>by subst z;rw[n]at mu;exact mu
  have hb:∀ b,H b=none->b ≠ e:=λ b n z=>by
    subst z
    rcases he with r|r
    . exact hx b n r
    . rw[n]at r;cases r
  have hm:∀ b u,H b=some u->¬ Mut (some u)->b ≠ x:=λ b u q nm z=>by subst z;rw[q]at mu;exact nm mu
  refine⟨λ b u q n _ _=>k b u (hb b n) q,λ b u q n _ _=>⟨u.slots,k b u (hb b n) q⟩,λ b u q n _=>by rw[AR (hx b n)];exact n,λ b u q _=>?_,
    λ b xs q=>by rw[AR (hm b _ q λ z=>z)];exact q,λ b u xs q=>by rw[AR (hm b _ q λ z=>z)];exact q,λ b ps q=>⟨#[],by rw[AR (hm b _ q λ z=>z),q];simp⟩⟩
  by_cases hbe:b=e
  . subst hbe;exact heo
  . exact⟨u,k b u hbe q⟩
end
noncomputable def trk(h:Heap)(H:Hp):List Addr:=(List.range h.objs.size).filter λ a=>(H a).isSome
noncomputable def Ga(h:Heap)(H:Hp):Heap:=PySem.W.hideAll h (trk h H)
theorem PY(h:Heap)(H:Hp):(Ga h H).objs.size=h.objs.size:=PySem.W.hideAll_size _ _
theorem Rz{h:Heap}{H:Hp}{b:Addr}{o:Obj}(e:h.get? b=some o)(n:H b=none):(Ga h H).get? b=some o:=
  PySem.W.hideAll_get _ e λ hm=>by
    have q:(H b).isSome=true:=(List.mem_filter.mp hm).2
    rw[n]at q;simp at q
theorem UD{h:Heap}{H:Hp}{b:Addr}{o:Obj}(e:(Ga h H).get? b=some o):h.get? b=some o/\H b=none:=by
  have e':h.get? b=some o:=PySem.W.of_hideAll (trk h H) e
  refine⟨e',?_⟩
  cases q:H b with
  | none=>rfl
  | some x=>
    have hm:b ∈ trk h H:=List.mem_filter.mpr ⟨List.mem_range.mpr (Heap.lt_size e'),by simp[q]⟩
    have z:(Ga h H).get? b=none:=PySem.W.hideAll_none (trk h H) hm
    rw[z]at e;cases e
noncomputable def Ug(g h:Heap)(L:Addr):List (Addr × Obj):=(List.range h.objs.size).filterMap λ a=>if a=L ∨ (g.get? a).isSome=true then none else(h.get? a).map λ o=>(a,o)
noncomputable def rest(g h:Heap)(L d:Addr):List (Addr × Obj):=(Ug g h L).filter λ p=>decide (p.1 ≠ d)
end L2
namespace L2
open PySem PySem.Spec PyProof.Rows
structure Mod(K:PySem.W.Frag)(mg:Str->Option Value)(base:Heap):Prop where
  kin:K.In base
  glob:base.Ns mainGlobals mg
  blt:∃ mb,base.Ns builtinsNs mb/\∀ x:Str,x ≠ "__name__"->mb x=bootBuiltins x
  nolimit:base.NoLimit
structure Cx where
  prog:Program
  w:World
  K:PySem.W.Frag
  mg:Str->Option Value
  base:Heap
  A:Around
  N:List Str
  s₀:Shared
  H₀:Hp
  env:Env
  outer:List Env
  stack:List Env
  ex:List Addr
  fn:Str->Bool
  calm:Bool
  pn:List (Addr × Obj)
  xe:Value->Shared->Prop
noncomputable def frs(l:List Env):List Addr:=l.filterMap (·.frame)
noncomputable abbrev Cx.fs(X:Cx):List Addr:=frs X.outer
noncomputable def Vis(sc:Scope)(x:Str):Prop:=sc.names.lookup x=some .local ∨ sc.names.lookup x=some .cell ∨ sc.names.lookup x=some .free
noncomputable def Loc(sc:Scope)(x:Str):Prop:=sc.names.lookup x=some .local ∨ sc.names.lookup x=some .cell
noncomputable def YN(env:Env)(h:Heap)(m:Str->Option Value)(x:Str)(u:Value):Prop:=
  (env.kindOf x=some .local/\m x=some u) ∨ ((env.kindOf x=some .cell ∨ env.kindOf x=some .free)/\∃ c,env.cells.lookup x=some c/\h.IsCell c (some u))
structure Cx.Ok(X:Cx):Prop where
  mod:Mod X.K X.mg X.base
  kind:X.env.scope.kind=.function
  glob:X.env.globals=mainGlobals
  blt:X.env.builtins=builtinsNs
  above:X.s₀.heap.objs.size <= X.env.locals
  inj:∀ x y c,X.env.cells.lookup x=some c->X.env.cells.lookup y=some c->x=y
  has:∀ x,(X.env.kindOf x=some .cell ∨ X.env.kindOf x=some .free)->∃ c,X.env.cells.lookup x=some c
  cab:∀ x c,X.fn x=true->X.env.cells.lookup x=some c->X.s₀.heap.objs.size <= c
  hd:X.calm=true->X.A.handled=none
  frames:X.A.frames=some X.stack
  stk:X.stack=X.outer ∨ (X.stack=X.env :: X.outer/\X.env.frame=some X.env.locals)
  exf:∀ b ∈ X.ex,b ≠ X.env.locals/\∀ x c,X.env.cells.lookup x=some c->c ≠ b
  bs:∀ b o,X.base.get? b=some o->X.s₀.heap.get? b=some o/\X.H₀ b=none
  bsz:X.base.objs.size <= X.s₀.heap.objs.size
  noex:∀ b o,X.base.get? b=some o->b ∉ X.ex
  exfs:∀ b ∈ X.ex,b ∉ X.fs
  funs:X.s₀.heap.FunFrames X.base X.outer
  frf:∀ b ∈ X.fs,X.H₀ b=none
structure Inv(X:Cx)(pins:List (Addr × Obj))(σ:List (Option V))(H:Hp)(s:Shared):Prop where
  ok:X.Ok
  os:s.os=X.s₀.os
  bare:AllBare s.gens
  base:Un X.fs X.ex X.H₀ H X.s₀.heap s.heap
  loc:∃ m,s.heap.Ns X.env.locals m/\∀ (i:Nat) (x:Str) (v:V),X.N[i]? = some x->σ[i]? = some (some v)->Vis X.env.scope x->∃ u,RelV v u/\YN X.env s.heap m x u
  cell:∀ x c,X.env.cells.lookup x=some c->∃ v,s.heap.IsCell c v
  free:H X.env.locals=none
  freeC:∀ x c,X.env.cells.lookup x=some c->H c=none
  pin:∀ p ∈ X.pn ++ pins,s.heap.get? p.1=some p.2/\H p.1=none/\p.1 ≠ X.env.locals/\p.1 ∉ X.fs/\∀ v,p.2.data ≠ .cell v
  hok:HOk X.prog X.w H s.heap
  len:σ.length=X.N.length
section
variable{X:Cx}{pins:List (Addr × Obj)}{σ:List (Option V)}{H H':Hp}{s:Shared}{h':Heap}
theorem Cx.Ok.nofr(ok:X.Ok){b:Addr}{o:Obj}(e:X.base.get? b=some o):b ∉ X.fs:=λ hb=>by
  have:=(ok.funs.mem hb).1
  rw[e]at this;cases this
theorem Inv.bs(I:Inv X pins σ H s):∀ b o,X.base.get? b=some o->s.heap.get? b=some o/\H b=none:=λ b o e=>
  ⟨I.base.keep b o (I.ok.bs b o e).1 (I.ok.bs b o e).2 (I.ok.nofr e) (I.ok.noex b o e),I.base.free b o (I.ok.bs b o e).1 (I.ok.bs b o e).2 (I.ok.noex b o e)⟩
theorem Inv.bk(I:Inv X pins σ H s):∀ b o,X.base.get? b=some o->s.heap.get? b=some o:=λ b o e=>(I.bs b o e).1
theorem Inv.mod(I:Inv X pins σ H s):Mod X.K X.mg X.base:=I.ok.mod
theorem Inv.kIn(I:Inv X pins σ H s):X.K.In s.heap:=I.ok.mod.kin.keeps I.bk
theorem Inv.lt(I:Inv X pins σ H s):X.env.locals < s.heap.objs.size:=let ⟨_,hn,_⟩:=I.loc;hn.lt
theorem Inv.sz(I:Inv X pins σ H s):X.s₀.heap.objs.size <= s.heap.objs.size:=Nat.le_trans I.ok.above (Nat.le_of_lt I.lt)
theorem Inv.nofs(I:Inv X pins σ H s){a:Addr}(h:s.heap.objs.size <= a):a ∉ X.fs:=λ hb=>by
  obtain⟨_,o,ho,_⟩:=I.ok.funs.mem hb
  exact absurd (Nat.lt_of_lt_of_le (Heap.lt_size ho) (Nat.le_trans I.sz h)) (Nat.lt_irrefl _)
theorem Inv.cne(I:Inv X pins σ H s):∀ x c,X.env.cells.lookup x=some c->c ≠ X.env.locals:=λ x c e z=>by
  obtain⟨v,o,ho,hd⟩:=I.cell x c e
  obtain⟨m,⟨o',es,ep,ho',hd',_⟩,_⟩:=I.loc
  rw[z,ho']at ho;cases ho;rw[hd']at hd;cases hd
theorem Inv.funs(I:Inv X pins σ H s):s.heap.FunFrames X.base X.outer:=by
  have all:∀ (l:List Env),(∀ b ∈ frs l,b ∈ X.fs)->X.s₀.heap.FunFrames X.base l->s.heap.FunFrames X.base l:=by
    intro l
    induction l with
    | nil=>intro _ _;trivial
    | cons env r ih=>
      intro hs hl
      obtain⟨hk,⟨L,o,hf,hn,ho,hd⟩,hr⟩:=hl
      have hL:L ∈ X.fs:=hs L (by unfold frs;rw[List.filterMap_cons,hf];exact List.mem_cons_self)
      obtain⟨sl,e⟩:=I.base.slot L o ho (I.ok.frf L hL) hL λ z=>I.ok.exfs L z hL
      exact⟨hk,⟨L,_,hf,hn,e,hd⟩,ih (λ b hb=>hs b (by unfold frs;rw[List.filterMap_cons,hf];exact List.mem_cons_of_mem _ hb)) hr⟩
  exact all X.outer (λ _ hb=>hb) I.ok.funs
theorem Inv.stack(I:Inv X pins σ H s):s.heap.FunFrames X.base X.stack:=by
  rcases I.ok.stk with e|⟨e,hf⟩
  . rw[e];exact I.funs
  . rw[e]
    obtain⟨m,hn,_⟩:=I.loc
    refine .cons (by rw[I.ok.kind];decide) hf hn ?_ I.funs
    exact Heap.get?_none_of_le (Nat.le_trans I.ok.bsz I.ok.above)
theorem Inv.stkSub(I:Inv X pins σ H s):∀ b ∈ frs X.stack,b ∈ X.env.locals :: X.fs:=λ b hb=>by
  rcases I.ok.stk with e|⟨e,hf⟩
  . rw[e]at hb;exact List.mem_cons_of_mem _ hb
  . rw[e]at hb
    unfold frs at hb
    rw[List.filterMap_cons,hf]at hb
    exact hb
theorem Inv.stkFree(I:Inv X pins σ H s):∀ b ∈ frs X.stack,H b=none:=λ b hb=>by
  rcases List.mem_cons.mp (I.stkSub b hb)with e|hb
  . rw[e];exact I.free
  . obtain⟨_,o,ho,_⟩:=I.ok.funs.mem hb
    exact I.base.free b o ho (I.ok.frf b hb) λ z=>I.ok.exfs b z hb
theorem Inv.step{g':Array GenState}{t':Nat}{d':Drawn}{ch:List Addr}(I:Inv X pins σ H s)
    (hch:∀ b ∈ ch,(b ∈ X.ex ∨ X.s₀.heap.objs.size <= b)/\b ≠ X.env.locals/\(∀ x c,X.env.cells.lookup x=some c->c ≠ b)/\∀ p ∈ X.pn ++ pins,p.1 ≠ b)
    (keep:∀ b o,b ≠ X.env.locals->b ∉ X.fs->b ∉ ch->s.heap.get? b=some o->H b=none->h'.get? b=some o)
    (slot:∀ b o,b ≠ X.env.locals->b ∈ X.fs->b ∉ ch->s.heap.get? b=some o->H b=none->∃ sl,h'.get? b=some { o with slots:=sl }) (free:∀ b o,b ∉ ch->s.heap.get? b=some o->H b=none->H' b=none)
    (there:∀ b o,b ∉ ch->s.heap.get? b=some o->∃ o',h'.get? b=some o')
    (tups:∀ b xs,H b=some (.tup xs)->H' b=some (.tup xs)) (frzs:∀ b o u,H b=some (.frz o u)->H' b=some (.frz o u)) (tbls:∀ b ps,H b=some (.tbl ps)->∃ more,H' b=some (.tbl (ps ++ more)))
    (ns:∀ m,s.heap.Ns X.env.locals m->h'.Ns X.env.locals m) (hok:HOk X.prog X.w H' h') (hg:AllBare g') :
    Inv X pins σ H' { s with heap:=h',gens:=g',drawn:=d',toks:=t' }:=by
  have neL:∀ b o,X.s₀.heap.get? b=some o->b ≠ X.env.locals:=λ b o e=>Nat.ne_of_lt (Nat.lt_of_lt_of_le (Heap.lt_size e) I.ok.above)
  have neC:∀ b o,X.s₀.heap.get? b=some o->b ∉ X.ex->b ∉ ch:=λ b o e hx hb=>by
    rcases(hch b hb).1 with z|z
    . exact hx z
    . exact absurd (Nat.lt_of_lt_of_le (Heap.lt_size e) z) (Nat.lt_irrefl _)
  have cellK:∀ x c,X.env.cells.lookup x=some c->∀ v,s.heap.IsCell c v->h'.IsCell c v:=λ x c e v ⟨o,ho,hd⟩=>by
    have nch:c ∉ ch:=λ z=>(hch c z).2.2.1 x c e rfl
    by_cases hc:c ∈ X.fs
    . obtain⟨sl,q⟩:=slot c o (I.cne x c e) hc nch ho (I.freeC x c e)
      exact⟨_,q,hd⟩
    . exact⟨o,keep c o (I.cne x c e) hc nch ho (I.freeC x c e),hd⟩
  refine⟨I.ok,I.os,hg,⟨λ b o e n hb hx=>?_,λ b o e n hb hx=>?_,λ b o e n hx=>?_,λ b o e hx=>?_,λ b xs e=>tups b xs (I.base.tups b xs e),λ b o xs e=>frzs b o xs (I.base.frzs b o xs e),λ b ps e=>?_⟩,?_,λ x c e=>?_,?_,λ x c e=>?_,λ p hp=>?_,hok,I.len⟩
  . exact keep b o (neL b o e) hb (neC b o e hx) (I.base.keep b o e n hb hx) (I.base.free b o e n hx)
  . obtain⟨sl,e1⟩:=I.base.slot b o e n hb hx
    obtain⟨sl',e2⟩:=slot b _ (neL b o e) hb (neC b o e hx) e1 (I.base.free b o e n hx)
    exact⟨sl',e2⟩
  . obtain⟨o',e1⟩:=I.base.there b o e hx
    exact free b o' (neC b o e hx) e1 (I.base.free b o e n hx)
  . obtain⟨o',e1⟩:=I.base.there b o e hx
    exact there b o' (neC b o e hx) e1
  . obtain⟨m1,e1⟩:=I.base.tbls b ps e
    obtain⟨m2,e2⟩:=tbls b _ e1
    exact⟨m1 ++ m2,by rw[e2,Array.append_assoc]⟩
  . obtain⟨m,hn,hl⟩:=I.loc
    refine⟨m,ns m hn,λ i x v e1 e2 e3=>?_⟩
    obtain⟨u,r,l⟩:=hl i x v e1 e2 e3
    refine⟨u,r,?_⟩
    rcases l with l|⟨k,c,e,z⟩
    . exact .inl l
    . exact .inr ⟨k,c,e,cellK x c e _ z⟩
  . obtain⟨v,z⟩:=I.cell x c e
    exact⟨v,cellK x c e v z⟩
  . obtain⟨m,⟨o,_,_,ho,_⟩,_⟩:=I.loc
    exact free _ o (λ z=>(hch _ z).2.1 rfl) ho I.free
  . obtain⟨v,o,ho,hd⟩:=I.cell x c e
    exact free c o (λ z=>(hch c z).2.2.1 x c e rfl) ho (I.freeC x c e)
  . obtain⟨e,n,ne,nf,d⟩:=I.pin p hp
    have nch:p.1 ∉ ch:=λ z=>(hch p.1 z).2.2.2 p hp rfl
    exact⟨keep p.1 p.2 ne nf nch e n,free p.1 p.2 nch e n,ne,nf,d⟩
theorem Inv.un{t':Nat}(I:Inv X pins σ H s)(u:Un X.fs [] H H' s.heap h')(hok:HOk X.prog X.w H' h'):Inv X pins σ H' { s with heap:=h',toks:=t' }:=by
  obtain⟨m,⟨o,es,ep,ho,r⟩,_⟩:=id I.loc
  obtain⟨sl,hL⟩:=u.any ho I.free (by simp)
  exact I.step (g':=s.gens) (d':=s.drawn) (ch:=[]) (λ _ z=>nomatch z) (λ b o _ hb _ e n=>u.keep b o e n hb (by simp)) (λ b o _ hb _ e n=>u.slot b o e n hb (by simp)) (λ b o _ e n=>u.free b o e n (by simp)) (λ b o _ e=>u.there b o e (by simp)) u.tups u.frzs u.tbls (λ m' hm=>by
    obtain⟨o',es',ep',ho',r'⟩:=hm
    rw[ho]at ho';cases ho'
    exact⟨_,es',ep',hL,r'⟩) hok I.bare
theorem Inv.call{g':Array GenState}{t':Nat}{d':Drawn}{ch:List Addr}(I:Inv X pins σ H s)(u:Un (frs X.stack) ch H H' s.heap h')(hok:HOk X.prog X.w H' h')(hg:AllBare g')
    (hch:∀ b ∈ ch,(b ∈ X.ex ∨ X.s₀.heap.objs.size <= b)/\b ≠ X.env.locals/\(∀ x c,X.env.cells.lookup x=some c->c ≠ b)/\∀ p ∈ X.pn ++ pins,p.1 ≠ b) :
    Inv X pins σ H' { s with heap:=h',gens:=g',drawn:=d',toks:=t' }:=by
  obtain⟨m,⟨o,es,ep,ho,r⟩,_⟩:=id I.loc
  obtain⟨sl,hL⟩:=u.any ho I.free λ z=>(hch _ z).2.1 rfl
  exact I.step (ch:=ch) hch (λ b o hL hb hc e n=>u.keep b o e n (λ z=>(List.mem_cons.mp (I.stkSub b z)).elim hL hb) hc) (λ b o _ _ hc e n=>u.any e n hc) (λ b o hc e n=>u.free b o e n hc) (λ b o hc e=>u.there b o e hc) u.tups u.frzs u.tbls (λ m' hm=>by
    obtain⟨o',es',ep',ho',r'⟩:=hm
    rw[ho]at ho';cases ho'
    exact⟨_,es',ep',hL,r'⟩) hok hg
theorem Inv.turned{t':Nat}{it:Addr}(I:Inv X pins σ H s)(k:∀ b o,b ≠ it->s.heap.get? b=some o->h'.get? b=some o)(hn:H it=none)(hL:it ≠ X.env.locals)
    (h1:it ∈ X.ex ∨ X.s₀.heap.objs.size <= it) (h2:∀ x c,X.env.cells.lookup x=some c->c ≠ it) (h3:∀ p ∈ X.pn ++ pins,p.1 ≠ it):Inv X pins σ H { s with heap:=h',toks:=t' }:=by
  have nit:∀ b u,H b=some u->b ≠ it:=λ b u e z=>by rw[z,hn]at e;cases e
  refine I.step (g':=s.gens) (d':=s.drawn) (ch:=[it]) (λ b hb=>?_) (λ b o _ _ hc e _=>k b o (λ z=>hc (by simp[z])) e) (λ b o _ _ hc e _=>⟨o.slots,k b o (λ z=>hc (by simp[z])) e⟩) (λ _ _ _ _ n=>n)
    (λ b o hc e=>⟨o,k b o (λ z=>hc (by simp[z])) e⟩) (λ _ _ e=>e) (λ _ _ _ e=>e) (λ b ps e=>⟨#[],by rw[e];simp⟩) (λ m hm=>?_) (λ b u e=>?_) I.bare
  . have e:b=it:=by simpa using hb
    subst e
    exact⟨h1,hL,h2,h3⟩
  . obtain⟨o,es,ep,ho,r⟩:=hm
    exact⟨o,es,ep,k _ o (Ne.symm hL) ho,r⟩
  . refine(I.hok b u e).stay (λ c v hc q=>k c v ?_ q) (λ _ q=>q) λ _ _ q=>q
    rcases hc with z|z
    . rw[z];exact nit b u e
    . exact nit c _ z
theorem Inv.tok(I:Inv X pins σ H s)(t:Nat):Inv X pins σ H { s with toks:=t }:=I.un (h':=s.heap) (t':=t) Un.refl I.hok
theorem Inv.kept{t':Nat}(I:Inv X pins σ H s)(k:∀ b u,s.heap.get? b=some u->h'.get? b=some u):Inv X pins σ H { s with heap:=h',toks:=t' }:=I.un (Un.kept k) (I.hok.kept k)
theorem Inv.laid{a:Addr}{o:HO}{t':Nat}(I:Inv X pins σ H s)(k:∀ b u,s.heap.get? b=some u->h'.get? b=some u)(hp:s.heap.objs.size <= a)(new:ObjOk X.prog X.w (upd H a o) h' a o) :
    Inv X pins σ (upd H a o) { s with heap:=h',toks:=t' }:=I.un (Un.laid k hp (I.hok.fresh hp)) (I.hok.laid k hp new)
theorem Inv.write{x e:Addr}{o:HO}{t':Nat}(I:Inv X pins σ H s)(mu:Mut (H x))(he:e=x ∨ H e=some (.own x))(k:∀ b u,b ≠ e->s.heap.get? b=some u->h'.get? b=some u)(heo:∃ u,h'.get? e=some u)
    (new:ObjOk X.prog X.w (upd H x o) h' x o):Inv X pins σ (upd H x o) { s with heap:=h',toks:=t' }:=I.un (Un.write mu he k heo) (I.hok.write mu he k heo new)
theorem Inv.pins_of{pins':List (Addr × Obj)}(I:Inv X pins σ H s)(h:∀ p ∈ pins',s.heap.get? p.1=some p.2/\H p.1=none/\p.1 ≠ X.env.locals/\p.1 ∉ X.fs/\∀ v,p.2.data ≠ .cell v):Inv X pins' σ H s:=
  ⟨I.ok,I.os,I.bare,I.base,I.loc,I.cell,I.free,I.freeC,λ p hp=>(List.mem_append.mp hp).elim (λ z=>I.pin p (List.mem_append_left _ z)) (h p),I.hok,I.len⟩
theorem Lq{N:List Str}(hN:N.Nodup){i j:Nat}{x:Str}(a:N[i]? = some x)(b:N[j]? = some x):i=j:=by
  obtain⟨h1,e1⟩:=List.getElem?_eq_some_iff.mp a
  obtain⟨h2,e2⟩:=List.getElem?_eq_some_iff.mp b
  exact(List.getElem_inj hN).mp (e1.trans e2.symm)
theorem HB{M:Model}{A:Around}{E:Value->Shared->Prop}{i:Nat}{x:Str}{v:V}{u:Value}{Q:Unit->Shared->Prop}(I:Inv X pins σ H s)(hN:X.N.Nodup)(hi:X.N[i]? = some x)(hx:Loc X.env.scope x)(r:RelV v u)
    (h:∀ s',Inv X pins (σ.set i (some v)) H s'->(∃ a,Heap.SameBut a s.heap s'.heap/\(a=X.env.locals ∨ X.env.cells.lookup x=some a))->Q () s') (hf:X.fn x=true ∨ X.env.scope.names.lookup x=some .local:=by first|exact .inl rfl|exact .inr rfl|assumption):wpAny M A (storeName X.env x u) Q E s:=by
  obtain⟨m,hn,hl⟩:=id I.loc
  have hcls:(X.env.scope.kind == .class || (X.env.scope.kind == .module && X.env.locals != X.env.globals))=false:=by rw[I.ok.kind];rfl
  have hiσ:i < σ.length:=by rw[I.len];exact(List.getElem?_eq_some_iff.mp hi).1
  have cne:=I.cne
  have tracked:∀ {a:Addr} {h':Heap},(∃ o,s.heap.get? a=some o/\H a=none)->Heap.SameBut a s.heap h'->HOk X.prog X.w H h':=λ {a h'} ha hs b ob e=>by
    obtain⟨_,_,hfree⟩:=ha
    refine(I.hok b ob e).stay (λ c w' hc q=>(hs.2 c ?_).trans q) (λ _ q=>q) λ _ _ q=>q
    rintro rfl
    rcases hc with rfl|hc
    . rw[hfree]at e;cases e
    . rw[hfree]at hc;cases hc
  rcases hx with hk|hk
  . refine wpAny_storeName_local hk hn (λ h' hn' hs=>?_) hcls
    obtain⟨oL,_,_,hoL,_⟩:=id hn
    refine h _ ⟨I.ok,I.os,I.bare,⟨λ b o e n hb hx=>?_,λ b o e n hb hx=>?_,I.base.free,λ b o e hx=>?_,I.base.tups,I.base.frzs,I.base.tbls⟩,⟨_,hn',λ j y v' e1 e2 e3=>?_⟩,λ y c e=>?_,I.free,I.freeC,λ p hp=>?_,tracked ⟨oL,hoL,I.free⟩ hs,by simpa using I.len⟩ ⟨_,hs,.inl rfl⟩
    . exact(hs.2 b (Nat.ne_of_lt (Nat.lt_of_lt_of_le (Heap.lt_size e) I.ok.above))).trans (I.base.keep b o e n hb hx)
    . obtain⟨sl,e1⟩:=I.base.slot b o e n hb hx
      exact⟨sl,(hs.2 b (Nat.ne_of_lt (Nat.lt_of_lt_of_le (Heap.lt_size e) I.ok.above))).trans e1⟩
    . obtain⟨o',e1⟩:=I.base.there b o e hx
      exact⟨o',(hs.2 b (Nat.ne_of_lt (Nat.lt_of_lt_of_le (Heap.lt_size e) I.ok.above))).trans e1⟩
    . by_cases hj:j=i
      . subst hj
        rw[hi]at e1;cases e1
        rw[List.getElem?_set_self hiσ]at e2
        cases e2
        exact⟨u,r,.inl ⟨hk,by simp⟩⟩
      . rw[List.getElem?_set_ne (Ne.symm hj)]at e2
        obtain⟨u',r',q⟩:=hl j y v' e1 e2 e3
        refine⟨u',r',?_⟩
        rcases q with⟨k,e⟩|⟨k,c,e,z⟩
        . refine .inl ⟨k,?_⟩
          have:y ≠ x:=λ e=>hj (Lq hN e1 (e ▸ hi))
          simp[this,e]
        . exact .inr ⟨k,c,e,z.sameBut hs (cne y c e)⟩
    . obtain⟨w',z⟩:=I.cell y c e
      exact⟨w',z.sameBut hs (cne y c e)⟩
    . obtain⟨e,n,ne,nf,d⟩:=I.pin p hp
      exact⟨(hs.2 p.1 ne).trans e,n,ne,nf,d⟩
  . have hfn:X.fn x=true:=by
      rcases hf with z|z
      . exact z
      . rw[z]at hk;cases hk
    obtain⟨c,hc⟩:=I.ok.has x (.inl hk)
    obtain⟨w',z⟩:=I.cell x c hc
    refine wpAny_storeName_cell I.ok.kind hk hc z (λ h' hc' hs=>?_)
    obtain⟨oc,hoc,hocd⟩:=id z
    refine h { s with heap:=h' } ⟨I.ok,I.os,I.bare,⟨λ b o e n hb hx=>?_,λ b o e n hb hx=>?_,I.base.free,λ b o e hx=>?_,I.base.tups,I.base.frzs,I.base.tbls⟩,⟨m,hn.sameBut hs (Ne.symm (cne x c hc)),λ j y v' e1 e2 e3=>?_⟩,λ y c' e=>?_,I.free,I.freeC,λ p hp=>?_,tracked ⟨oc,hoc,I.freeC x c hc⟩ hs,by simpa using I.len⟩ ⟨c,hs,.inr hc⟩
    . exact(hs.2 b (Nat.ne_of_lt (Nat.lt_of_lt_of_le (Heap.lt_size e) (I.ok.cab x c hfn hc)))).trans (I.base.keep b o e n hb hx)
    . obtain⟨sl,e1⟩:=I.base.slot b o e n hb hx
      exact⟨sl,(hs.2 b (Nat.ne_of_lt (Nat.lt_of_lt_of_le (Heap.lt_size e) (I.ok.cab x c hfn hc)))).trans e1⟩
    . obtain⟨o',e1⟩:=I.base.there b o e hx
      exact⟨o',(hs.2 b (Nat.ne_of_lt (Nat.lt_of_lt_of_le (Heap.lt_size e) (I.ok.cab x c hfn hc)))).trans e1⟩
    . by_cases hj:j=i
      . subst hj
        rw[hi]at e1;cases e1
        rw[List.getElem?_set_self hiσ]at e2
        cases e2
        exact⟨u,r,.inr ⟨.inl hk,c,hc,hc'⟩⟩
      . rw[List.getElem?_set_ne (Ne.symm hj)]at e2
        obtain⟨u',r',q⟩:=hl j y v' e1 e2 e3
        refine⟨u',r',?_⟩
        rcases q with q|⟨k,c',e,z'⟩
        . exact .inl q
        . refine .inr ⟨k,c',e,z'.sameBut hs ?_⟩
          rintro rfl
          exact hj (Lq hN e1 (I.ok.inj _ _ _ e hc ▸ hi))
    . by_cases hcc:c'=c
      . subst hcc;exact⟨_,hc'⟩
      . obtain⟨w2,z2⟩:=I.cell y c' e
        exact⟨w2,z2.sameBut hs hcc⟩
    . obtain⟨e,n,ne,nf,d⟩:=I.pin p hp
      refine⟨(hs.2 p.1 ?_).trans e,n,ne,nf,d⟩
      intro q
      rw[q,hoc]at e
      have q':oc=p.2:=Option.some.inj e
      exact d w' (by rw[<- q'];exact hocd)
theorem FI{M:Model}{A:Around}{E:Value->Shared->Prop}{i:Nat}{x:Str}{v:V}{u:Value}{Q:Unit->Shared->Prop}(I:Inv X pins σ H s)(hN:X.N.Nodup)(hi:X.N[i]? = some x)(hx:Loc X.env.scope x)(r:RelV v u)
    (h:∀ s',Inv X pins (σ.set i (some v)) H s'->Q () s') (hf:X.fn x=true ∨ X.env.scope.names.lookup x=some .local:=by first|exact .inl rfl|exact .inr rfl|assumption):wpAny M A (storeName X.env x u) Q E s:=
  HB I hN hi hx r (λ s' I' _=>h s' I') hf
theorem Inv.call'{s':Shared}{ch:List Addr}(I:Inv X pins σ H s)(ho:s'.os=s.os)(u:Un (frs X.stack) ch H H' s.heap s'.heap)(hok:HOk X.prog X.w H' s'.heap)(hg:AllBare s'.gens)
    (hch:∀ b ∈ ch,(b ∈ X.ex ∨ X.s₀.heap.objs.size <= b)/\b ≠ X.env.locals/\(∀ x c,X.env.cells.lookup x=some c->c ≠ b)/\∀ p ∈ X.pn ++ pins,p.1 ≠ b):Inv X pins σ H' s':=by
  obtain⟨h',g',d',t',o'⟩:=s'
  have e:o'=s.os:=ho
  subst e
  exact I.call (g':=g') (t':=t') (d':=d') u hok hg hch
end
noncomputable abbrev XK:=Value->Option Addr->Hp->Prop
noncomputable abbrev St:=List (Option V)
noncomputable abbrev VK:=V->Hp->Prop
noncomputable abbrev TE:=St->Hp->VK->Prop
noncomputable abbrev TT:=St->Hp->(Bool->Hp->Prop)->Prop
noncomputable abbrev TA:=St->Hp->(List V->Hp->Prop)->Prop
structure Ends where
  nx:St->Hp->Prop
  rt:VK
  bk:St->Hp->Prop:=λ _ _=>False
  ct:St->Hp->Prop:=λ _ _=>False
noncomputable abbrev TS:=Ends->St->Hp->Prop
noncomputable def EP(X:Cx)(pins:List (Addr × Obj))(σ:St)(Q:VK)(u:Value)(s':Shared):Prop:=∃ v H',Inv X pins σ H' s'/\RelV v u/\Q v H'
noncomputable def TP(X:Cx)(pins:List (Addr × Obj))(σ:St)(Q:Bool->Hp->Prop)(b:Bool)(s':Shared):Prop:=∃ H',Inv X pins σ H' s'/\Q b H'
noncomputable def AP(X:Cx)(pins:List (Addr × Obj))(σ:St)(Q:List V->Hp->Prop)(us:List Value)(s':Shared):Prop:=∃ vs H',Inv X pins σ H' s'/\Vals vs us/\Q vs H'
noncomputable def SP(X:Cx)(pins:List (Addr × Obj))(D:Ends)(f:Flow)(s':Shared):Prop:=
  match f with
  | .next=>∃ σ' H',Inv X pins σ' H' s'/\D.nx σ' H'
  | .brk=>∃ σ' H',Inv X pins σ' H' s'/\D.bk σ' H'
  | .cont=>∃ σ' H',Inv X pins σ' H' s'/\D.ct σ' H'
  | .ret u=>∃ v σ' H',Inv X pins σ' H' s'/\RelV v u/\D.rt v H'
noncomputable def PE(X:Cx)(e:Expr)(t:TE):Prop:=
  ∀ (pins:List (Addr × Obj)) (s:Shared) (σ:St) (H:Hp) (Q:VK),Inv X pins σ H s->t σ H Q->wpAny (model X.prog X.w) X.A (eval e X.env) (EP X pins σ Q) X.xe s
noncomputable def PT(X:Cx)(e:Expr)(t:TT):Prop:=
  ∀ (pins:List (Addr × Obj)) (s:Shared) (σ:St) (H:Hp) (Q:Bool->Hp->Prop),Inv X pins σ H s->t σ H Q->wpAny (model X.prog X.w) X.A (isTrue e X.env (eval e X.env)) (TP X pins σ Q) X.xe s
noncomputable def PW(X:Cx)(e:Expr)(t:TT):Prop:=
  ∀ (whole:Sem Value) (pins:List (Addr × Obj)) (s:Shared) (σ:St) (H:Hp) (Q:Bool->Hp->Prop),Inv X pins σ H s->t σ H Q->wpAny (model X.prog X.w) X.A (isTrue e X.env whole) (TP X pins σ Q) X.xe s
theorem PW.pt{X:Cx}{e:Expr}{t:TT}(h:PW X e t):PT X e t:=h _
noncomputable def PA(X:Cx)(es:List Expr)(t:TA):Prop:=
  ∀ (pos:Pos) (pins:List (Addr × Obj)) (s:Shared) (σ:St) (H:Hp) (Q:List V->Hp->Prop),Inv X pins σ H s->t σ H Q->wpAny (model X.prog X.w) X.A (spliced (backTo pos (starEach es X.env))) (AP X pins σ Q) X.xe s
noncomputable def PS(X:Cx)(st:Stmt)(t:TS):Prop:=
  ∀ (pins:List (Addr × Obj)) (s:Shared) (σ:St) (H:Hp) (D:Ends),Inv X pins σ H s->t D σ H->wpAny (model X.prog X.w) X.A (exec st X.env) (SP X pins D) X.xe s
noncomputable def PSs(X:Cx)(st:List Stmt)(t:TS):Prop:=
  ∀ (pins:List (Addr × Obj)) (s:Shared) (σ:St) (H:Hp) (D:Ends),Inv X pins σ H s->t D σ H->wpAny (model X.prog X.w) X.A (execs st X.env) (SP X pins D) X.xe s
theorem thn{α:Type}{t:Sem α}{Q Q':α->Shared->Prop}{M:Model}{A:Around}{E:Value->Shared->Prop}{s:Shared}(h:wpAny M A t Q E s)(hQ:∀ a s,Q a s->Q' a s):wpAny M A t Q' E s:=wpAny_mono h hQ λ _ _ x=>x
end L2
namespace L2
open PySem PySem.Spec PyProof.Rows
section
variable{X:Cx}
theorem bin{a b:Expr}{ta tb:TE}(ha:PE X a ta)(hb:PE X b tb){pins:List (Addr × Obj)}{s:Shared}{σ:St}{H:Hp}{R:V->V->Hp->Prop}(I:Inv X pins σ H s)(h:ta σ H λ x H1=>tb σ H1 λ y H2=>R x y H2)
    {α:Type} {Q:α->Shared->Prop} {f:Value->Value->Sem α}
    (hf:∀ v u s2 x y H2,Inv X pins σ H2 s2->RelV x v->RelV y u->R x y H2->wpAny (model X.prog X.w) X.A (f v u) Q X.xe s2) :
    wpAny (model X.prog X.w) X.A (eval a X.env) (λ v s₁=>wpAny (model X.prog X.w) X.A (eval b X.env) (λ u s₂=>wpAny (model X.prog X.w) X.A (f v u) Q X.xe s₂) X.xe s₁) X.xe s:=by
  refine thn (ha pins s σ H _ I h) λ v s1 ⟨x,H1,I1,r1,q1⟩=>?_
  refine thn (hb pins s1 σ H1 _ I1 q1) λ u s2 ⟨y,H2,I2,r2,q2⟩=>?_
  exact hf v u s2 x y H2 I2 r1 r2 q2
noncomputable def NT(i:Nat):TE:=λ σ H Q=>∃ v,σ[i]? = some (some v)/\Q v H
noncomputable def tC(v:V):TE:=λ _ H Q=>Q v H
theorem P4{i:Nat}{x:Str}{pos:Pos}(hN:X.N[i]? = some x)(hv:Vis X.env.scope x)(hd:(x == ("__debug__":Str))=false:=by decide)(hcd:(x == ("__classdict__":Str))=false:=by decide):PE X (.Name x pos) (NT i):=by
  intro pins s σ H Q I h
  obtain⟨v,e,h⟩:=h
  obtain⟨m,hn,hl⟩:=I.loc
  obtain⟨u,r,l⟩:=hl i x v hN e hv
  have fin:EP X pins σ Q u s:=⟨v,H,I,r,h⟩
  rcases l with⟨hk,hm⟩|⟨hk,c,hc,hcell⟩
  . exact wpAny_Name (wpAny_loadName_local I.ok.kind hk hn hm fin) hd
  . rcases hk with hk|hk
    . exact wpAny_Name (wpAny_loadName_cell I.ok.kind hk hc hcell fin) hd
    . exact wpAny_Name (wpAny_loadName_free I.ok.kind hk hc hcell fin hcd) hd
theorem Vw{i j pos}:PE X (.Constant (.int i) j pos) (tC (.int i)):=λ _ _ _ H _ I h=>wpAny_Constant_int ⟨.int i,H,I.tok _,⟨_,rfl⟩,h⟩
theorem XS{b j pos}:PE X (.Constant (.bool b) j pos) (tC (.bl b)):=λ _ _ _ H _ I h=>Constant_bool ⟨.bl b,H,I,rfl,h⟩
theorem Vu{j pos}:PE X (.Constant .none j pos) (tC .non):=λ _ _ _ H _ I h=>Constant_none ⟨.non,H,I,rfl,h⟩
theorem Vt{x j pos}:PE X (.Constant (.str x) j pos) (tC (.str x)):=λ _ _ _ H _ I h=>Calls.Constant_str ⟨.str x,H,I.tok _,⟨_,rfl⟩,h⟩
noncomputable def Gl(X:Cx)(x:Str):Prop:=X.env.kindOf x=some .globalImplicit
theorem UO{E:Value->Shared->Prop}{pins:List (Addr × Obj)}{s:Shared}{σ:St}{H:Hp}{x:Str}{u:Value}{pos:Pos}{Q:Value->Shared->Prop}(I:Inv X pins σ H s)(hg:Gl X x)(hm:X.mg x=some u)(h:Q u s)
    (hd:(x == ("__debug__":Str))=false:=by decide):wpAny (model X.prog X.w) X.A (eval (.Name x pos) X.env) Q E s:=
  Calls.Name_function_global I.ok.kind hg (Calls.loadGlobal_global (by rw[I.ok.glob];exact I.mod.glob.keeps I.bk) hm h) hd
theorem G5{E:Value->Shared->Prop}{pins:List (Addr × Obj)}{s:Shared}{σ:St}{H:Hp}{x:Str}{u:Value}{pos:Pos}{Q:Value->Shared->Prop}(I:Inv X pins σ H s)(hg:Gl X x)(hm:X.mg x=none)(hv:bootBuiltins x=some u)(h:Q u s)
    (hn:x ≠ "__name__":=by decide) (hd:(x == ("__debug__":Str))=false:=by decide):wpAny (model X.prog X.w) X.A (eval (.Name x pos) X.env) Q E s:=by
  obtain⟨mb,h1,h2⟩:=I.mod.blt
  exact Calls.Name_function_global I.ok.kind hg (Calls.loadGlobal_builtin (by rw[I.ok.glob];exact I.mod.glob.keeps I.bk) hm (by rw[I.ok.blt];exact h1.keeps I.bk) ((h2 x hn).trans hv) h) hd
variable{a b:Expr}{ta tb:TE}{pos:Pos}
noncomputable def PC(X:Cx)(op:CmpOp)(a b:Expr)(t:TE):Prop:=
  ∀ (pins:List (Addr × Obj)) (s:Shared) (σ:St) (H:Hp) (Q:VK),Inv X pins σ H s->t σ H Q ->
    wpAny (model X.prog X.w) X.A (eval a X.env) (λ v s₁=>wpAny (model X.prog X.w) X.A (eval b X.env) (λ u s₂=>wpAny (model X.prog X.w) X.A (compareOp op v u) (EP X pins σ Q) X.xe s₂) X.xe s₁) X.xe s
theorem Rl(b:Expr){op:CmpOp}(h:op ≠ .In)(h2:op ≠ .NotIn):behindInMarks op b=false:=by
  have e1:(op == CmpOp.In)=false:=by cases op <;> first|rfl|exact absurd rfl h
  have e2:(op == CmpOp.NotIn)=false:=by cases op <;> first|rfl|exact absurd rfl h2
  cases b <;> simp[behindInMarks,e1,e2]
noncomputable def QY(ta:TE):TE:=λ σ H Q=>ta σ H λ x H1=>Q (.bl (decide (x=.non))) H1
theorem RelV.none_iff{x:V}{v:Value}(r:RelV x v):(v == Value.none)=decide (x=.non):=by
  cases x with
  | non=>cases r;rfl
  | bl _=>cases r;rfl
  | int _=>obtain⟨t,rfl⟩:=r;rfl
  | str _=>obtain⟨t,rfl⟩:=r;rfl
  | byt _=>obtain⟨t,rfl⟩:=r;rfl
  | flt _=>obtain⟨t,rfl⟩:=r;rfl
  | ref _=>cases r;rfl
  | ty _=>cases r;rfl
theorem Vx{j pos'}(ha:PE X a ta):PC X .Is a (.Constant .none j pos') (QY ta):=by
  intro pins s σ H Q I h
  refine thn (ha pins s σ H _ I h) λ v s1 ⟨x,H1,I1,r1,q1⟩=>?_
  exact Constant_none (is_none_gen ⟨.bl _,H1,I1,by rw[r1.none_iff];rfl,q1⟩)
noncomputable def tB(t:TE):TT:=λ σ H Q=>t σ H λ x H1=>∃ c,x=.bl c/\Q c H1
theorem Vg{op:CmpOp}{t:TE}(h:PC X op a b t)(h1:behindInMarks op b=false:=by first|exact Rl _ (by decide) (by decide)|rfl):PT X (.Compare a [op] [b] pos) (tB t):=by
  intro pins s σ H Q I hw
  refine wpAny_isTrue_Compare1 (thn (h pins s σ H _ I hw) λ v s1 h1=>thn h1 λ u s2 h2=>thn h2 λ c s3 ⟨x,H1,I1,r1,q1⟩=>?_) h1
  obtain⟨d,rfl,q⟩:=q1
  cases r1
  exact wpAny_truthy_bool ⟨H1,I1,q⟩
variable{tA tB':TT}{rest:List Expr}
noncomputable def Qb(t u:TT):TT:=λ σ H Q=>t σ H λ c H1=>if c=true then u σ H1 Q else Q false H1
noncomputable def tOr(t u:TT):TT:=λ σ H Q=>t σ H λ c H1=>if c=true then Q true H1 else u σ H1 Q
noncomputable def QV(t:TT):TT:=λ σ H Q=>t σ H λ c H1=>Q (!c) H1
theorem Tn(ha:PT X a tA):PW X (.BoolOp .And [a] pos) tA:=by
  intro wh pins s σ H Q I h
  refine isTrue_and (thn (ha pins s σ H Q I h) λ c s1 e=>?_)
  cases c with
  | true=>exact isTrue_and_nil e
  | false=>exact e
theorem Vd(ha:PT X a tA):PW X (.BoolOp .Or [a] pos) tA:=by
  intro wh pins s σ H Q I h
  refine isTrue_or (thn (ha pins s σ H Q I h) λ c s1 e=>?_)
  cases c with
  | false=>exact isTrue_or_nil e
  | true=>exact e
theorem Ve(ha:PT X a tA)(hb:PW X (.BoolOp .And (b :: rest) pos) tB'):PW X (.BoolOp .And (a :: b :: rest) pos) (Qb tA tB'):=by
  intro wh pins s σ H Q I h
  refine isTrue_and (thn (ha pins s σ H _ I h) λ c s1 ⟨H1,I1,q1⟩=>?_)
  cases c with
  | true=>exact hb wh pins s1 σ H1 Q I1 q1
  | false=>exact⟨H1,I1,q1⟩
theorem XN(ha:PT X a tA)(hb:PW X (.BoolOp .Or (b :: rest) pos) tB'):PW X (.BoolOp .Or (a :: b :: rest) pos) (tOr tA tB'):=by
  intro wh pins s σ H Q I h
  refine isTrue_or (thn (ha pins s σ H _ I h) λ c s1 ⟨H1,I1,q1⟩=>?_)
  cases c with
  | true=>exact⟨H1,I1,q1⟩
  | false=>exact hb wh pins s1 σ H1 Q I1 q1
theorem Vf(ha:PT X a tA):PT X (.UnaryOp .Not a pos) (QV tA):=by
  intro pins s σ H Q I h
  exact isTrue_not (ha pins s σ H (λ c H1=>Q (!c) H1) I h)
noncomputable def tIf(t:TT)(ta tb:TE):TE:=λ σ H Q=>t σ H λ c H1=>if c=true then ta σ H1 Q else tb σ H1 Q
theorem Ri{c:Expr}(hc:PT X c tA)(ha:PE X a ta)(hb:PE X b tb):PE X (.IfExp c a b pos) (tIf tA ta tb):=by
  intro pins s σ H Q I h
  refine wpAny_IfExp (thn (hc pins s σ H _ I h) λ d s1 ⟨H1,I1,q1⟩=>?_)
  cases d with
  | true=>exact ha pins s1 σ H1 Q I1 q1
  | false=>exact hb pins s1 σ H1 Q I1 q1
end
end L2
namespace L2
open PySem PySem.Spec PyProof.Rows
noncomputable def SqL(K:PySem.W.Frag)(H:Hp)(a:Addr)(xs:List V):Prop:=
  Rd H a (.lst xs) ∨
    ∃ (o:Obj) (its:Array Value) (n:Nat),K.lookup a=some o/\o.cls=.type "list"/\o.dict=none/\o.data=.seq its n/\its.size <= sizeLine/\Vals xs its.toList
noncomputable def SqT(K:PySem.W.Frag)(H:Hp)(a:Addr)(xs:List V):Prop:=
  Rd H a (.tup xs) ∨
    ∃ (o:Obj) (its:Array Value) (n:Nat),K.lookup a=some o/\o.cls=.type "tuple"/\o.dict=none/\o.data=.seq its n/\its.size <= sizeLine/\Vals xs its.toList
noncomputable def YL:Value->Option V
  | .none=>some .non
  | .bool b=>some (.bl b)
  | .int i _=>some (.int i)
  | .str x _=>some (.str x)
  | .bytes b _=>some (.byt b)
  | .float b _=>some (.flt b)
  | .ref a=>some (.ref a)
  | .type n=>some (.ty n)
  | _=>none
theorem RelV.abs{x:V}{u:Value}(r:RelV x u):YL u=some x:=by
  cases x with
  | non=>cases r;rfl
  | bl _=>cases r;rfl
  | int _=>obtain⟨t,rfl⟩:=r;rfl
  | str _=>obtain⟨t,rfl⟩:=r;rfl
  | byt _=>obtain⟨t,rfl⟩:=r;rfl
  | flt _=>obtain⟨t,rfl⟩:=r;rfl
  | ref _=>cases r;rfl
  | ty _=>cases r;rfl
theorem RelV.inj{x y:V}{u:Value}(r:RelV x u)(q:RelV y u):x=y:=Option.some.inj (r.abs.symm.trans q.abs)
theorem Vals.inj:∀ {xs ys:List V} {us:List Value},Vals xs us->Vals ys us->xs=ys
  | _,_,_,.nil,.nil=>rfl
  | _,_,_,.cons r t,.cons r' t'=>by rw[r.inj r',Vals.inj t t']
section
variable{X:Cx}{pins:List (Addr × Obj)}{σ:St}{H:Hp}{s:Shared}{a:Addr}{xs ys:List V}
theorem SqL.of{K:PySem.W.Frag}(h:H a=some (.lst xs)):SqL K H a xs:=.inl (.inl h)
theorem SqT.of{K:PySem.W.Frag}(h:H a=some (.tup xs)):SqT K H a xs:=.inl (.inl h)
theorem Inv.list(I:Inv X pins σ H s)(h:SqL X.K H a xs):∃ its:List Value,Vals xs its/\PlainL s.heap a its.toArray/\xs.length <= sizeLine:=by
  rcases h with h|⟨o,its,n,hk,hc,hd,hs,hz,r⟩
  . obtain⟨z,its,n,r,e⟩:=h.ok I.hok
    exact⟨its,r,⟨_,n,e,rfl,rfl,rfl⟩,z⟩
  . refine⟨its.toList,r,⟨o,n,I.kIn a o hk,hc,hd,by simpa using hs⟩,?_⟩
    have e:=r.length
    simp only[Array.length_toList]at e
    omega
theorem Inv.tuple(I:Inv X pins σ H s)(h:SqT X.K H a xs):∃ its:List Value,Vals xs its/\IsTup s.heap a its.toArray/\xs.length <= sizeLine:=by
  rcases h with h|⟨o,its,n,hk,hc,_,hs,hz,r⟩
  . obtain⟨z,its,r,p⟩:=h.ok I.hok
    exact⟨its,r,p.t,z⟩
  . refine⟨its.toList,r,⟨o,I.kIn a o hk,hc,n,by simpa using hs⟩,?_⟩
    have e:=r.length
    simp only[Array.length_toList]at e
    omega
theorem Inv.list_inj(I:Inv X pins σ H s)(h:SqL X.K H a xs)(h':SqL X.K H a ys):xs=ys:=by
  obtain⟨its,r,⟨o,n,e,_,_,d⟩,_⟩:=I.list h
  obtain⟨its',r',⟨o',n',e',_,_,d'⟩,_⟩:=I.list h'
  rw[e]at e';cases e'
  rw[d]at d'
  injection d' with d1 _
  have:its=its':=by simpa using congrArg Array.toList d1
  subst this
  exact r.inj r'
theorem Inv.tuple_inj(I:Inv X pins σ H s)(h:SqT X.K H a xs)(h':SqT X.K H a ys):xs=ys:=by
  obtain⟨its,r,⟨o,e,_,n,d⟩,_⟩:=I.tuple h
  obtain⟨its',r',⟨o',e',_,n',d'⟩,_⟩:=I.tuple h'
  rw[e]at e';cases e'
  rw[d]at d'
  injection d' with d1 _
  have:its=its':=by simpa using congrArg Array.toList d1
  subst this
  exact r.inj r'
end
noncomputable abbrev Cx.wish(X:Cx)(E:Value->Shared->Prop):Cx:={ X with xe:=E }
noncomputable abbrev Cx.nox(X:Cx):Cx:=X.wish λ _ _=>False
theorem Cx.Ok.wish{X:Cx}(ok:X.Ok)(E:Value->Shared->Prop):(X.wish E).Ok:=
  ⟨ok.mod,ok.kind,ok.glob,ok.blt,ok.above,ok.inj,ok.has,ok.cab,ok.hd,ok.frames,ok.stk,ok.exf,ok.bs,ok.bsz,ok.noex,ok.exfs,ok.funs,ok.frf⟩
theorem Cx.Ok.unwish{X:Cx}{E:Value->Shared->Prop}(ok:(X.wish E).Ok):X.Ok:=
  ⟨ok.mod,ok.kind,ok.glob,ok.blt,ok.above,ok.inj,ok.has,ok.cab,ok.hd,ok.frames,ok.stk,ok.exf,ok.bs,ok.bsz,ok.noex,ok.exfs,ok.funs,ok.frf⟩
section
variable{X:Cx}{pins:List (Addr × Obj)}{σ:St}{H:Hp}{s:Shared}{E:Value->Shared->Prop}
theorem Inv.wish(I:Inv X pins σ H s)(E:Value->Shared->Prop):Inv (X.wish E) pins σ H s:=⟨I.ok.wish E,I.os,I.bare,I.base,I.loc,I.cell,I.free,I.freeC,I.pin,I.hok,I.len⟩
theorem Inv.unwish(I:Inv (X.wish E) pins σ H s):Inv X pins σ H s:=⟨I.ok.unwish,I.os,I.bare,I.base,I.loc,I.cell,I.free,I.freeC,I.pin,I.hok,I.len⟩
theorem SP.unwish{D:Ends}{f:Flow}{s':Shared}(h:SP (X.wish E) pins D f s'):SP X pins D f s':=by
  cases f with
  | next=>obtain⟨σ',H',I,q⟩:=h;exact⟨σ',H',I.unwish,q⟩
  | brk=>obtain⟨σ',H',I,q⟩:=h;exact⟨σ',H',I.unwish,q⟩
  | cont=>obtain⟨σ',H',I,q⟩:=h;exact⟨σ',H',I.unwish,q⟩
  | ret u=>obtain⟨v,σ',H',I,r,q⟩:=h;exact⟨v,σ',H',I.unwish,r,q⟩
theorem PSs.nox{st:List Stmt}{t:TS}(h:PSs X.nox st t):PSs X st t:=λ pins s σ H D I hw=>
  wpAny_mono (h pins s σ H D (I.wish _) hw) (λ _ _ q=>q.unwish) λ _ _ z=>False.elim z
end
section
variable{X:Cx}{st:Stmt}{rest:List Stmt}{t u:TS}{e:Expr}{te:TE}{pos:Pos}
noncomputable def NW:TS:=λ D σ H=>D.nx σ H
noncomputable def QP(t u:TS):TS:=λ D σ H=>t { D with nx:=u D } σ H
theorem Tq:PSs X [] NW:=λ _ _ σ H _ I h=>wpAny_execs_nil ⟨σ,H,I,h⟩
theorem RY(h1:PS X st t)(h2:PSs X rest u):PSs X (st :: rest) (QP t u):=by
  intro pins s σ H D I h
  refine wpAny_execs_cons (thn (h1 pins s σ H { D with nx:=u D } I h) λ f s1 q=>?_)
  cases f with
  | next=>
    obtain⟨σ',H',I',q⟩:=q
    exact h2 pins s1 σ' H' D I' q
  | ret v=>exact q
  | brk=>exact q
  | cont=>exact q
theorem To(h1:PS X st t):PSs X [st] t:=by
  intro pins s σ H D I h
  refine wpAny_execs_cons (thn (h1 pins s σ H D I h) λ f s1 q=>?_)
  cases f with
  | next=>exact wpAny_execs_nil q
  | ret v=>exact q
  | brk=>exact q
  | cont=>exact q
theorem Inv.quiet{pins:List (Addr × Obj)}{σ:St}{H:Hp}{s:Shared}(I:Inv X pins σ H s):interactive X.env=false:=by simp[interactive,I.ok.kind]
noncomputable def NY(te:TE):TS:=λ D σ H=>te σ H λ _ H1=>D.nx σ H1
theorem Tt(he:PE X e te)(hs:swapsWith e none pos.line X.env=pure false:=by rfl):PS X (.Expr e pos) (NY te):=by
  intro pins s σ H D I h
  exact wpAny_Expr_any (thn (he pins s σ H _ I h) λ v s1 ⟨x,H1,I1,r1,q1⟩=>⟨σ,H1,I1,q1⟩) I.quiet hs
noncomputable def QQ(te:TE):TS:=λ D σ H=>te σ H D.rt
theorem Vi(he:PE X e te):PS X (.Return (some e) pos) (QQ te):=by
  intro pins s σ H D I h
  exact wpAny_Return_some (thn (he pins s σ H _ I h) λ v s1 ⟨x,H1,I1,r1,q1⟩=>⟨x,σ,H1,I1,r1,q1⟩)
noncomputable def QZ(c:TT)(t u:TS):TS:=λ D σ H=>c σ H λ b H1=>if b=true then t D σ H1 else u D σ H1
theorem XO{c:Expr}{a b:List Stmt}{tc:TT}(hc:PT X c tc)(ha:PSs X a t)(hb:PSs X b u):PS X (.If c a b pos) (QZ tc t u):=by
  intro pins s σ H D I h
  refine wpAny_If (thn (hc pins s σ H _ I h) λ d s1 ⟨H1,I1,q1⟩=>?_)
  cases d with
  | true=>exact ha pins s1 σ H1 D I1 q1
  | false=>exact hb pins s1 σ H1 D I1 q1
noncomputable def L3:TS:=λ _ _ _=>False
theorem Rb:PS X st L3:=λ _ _ _ _ _ _ h=>h.elim
end
noncomputable abbrev TG:=V->St->Hp->(St->Hp->Prop)->Prop
noncomputable abbrev TGs:=List V->St->Hp->(St->Hp->Prop)->Prop
noncomputable def PG(X:Cx)(target:Expr)(t:TG):Prop:=
  ∀ (pins:List (Addr × Obj)) (s:Shared) (σ:St) (H:Hp) (v:V) (u:Value) (Q:St->Hp->Prop),Inv X pins σ H s->RelV v u->t v σ H Q ->
    wpAny (model X.prog X.w) X.A (assign target X.env u) (λ _ s'=>∃ σ' H',Inv X pins σ' H' s'/\Q σ' H') X.xe s
noncomputable def PGs(X:Cx)(ts:List Expr)(t:TGs):Prop:=
  ∀ (pins:List (Addr × Obj)) (s:Shared) (σ:St) (H:Hp) (vs:List V) (us:List Value) (Q:St->Hp->Prop),Inv X pins σ H s->Vals vs us->t vs σ H Q ->
    wpAny (model X.prog X.w) X.A (assignInOrder ((assignEach ts X.env).map (·.2)) us) (λ _ s'=>∃ σ' H',Inv X pins σ' H' s'/\Q σ' H') X.xe s
noncomputable abbrev SD:=V->V->V->Hp->(Hp->Prop)->Prop
noncomputable def Wy(X:Cx)(t:SD):Prop:=
  ∀ (pins:List (Addr × Obj)) (s:Shared) (σ:St) (H:Hp) (o i v:V) (ov iv u:Value) (Q:Hp->Prop),Inv X pins σ H s->RelV o ov->RelV i iv->RelV v u->t o i v H Q ->
    wpAny (model X.prog X.w) X.A (setItem ov iv u) (λ _ s'=>∃ H',Inv X pins σ H' s'/\Q H') X.xe s
noncomputable abbrev TIp:=V->V->Hp->VK->Prop
noncomputable def PIp(X:Cx)(op:Operator)(t:TIp):Prop:=
  ∀ (pins:List (Addr × Obj)) (s:Shared) (σ:St) (H:Hp) (x y:V) (v u:Value) (Q:VK),Inv X pins σ H s->RelV x v->RelV y u->t x y H Q ->
    wpAny (model X.prog X.w) X.A (inplaceOp op v u) (EP X pins σ Q) X.xe s
section
variable{X:Cx}{pos:Pos}
noncomputable def Ew(i:Nat):TG:=λ v σ H Q=>Q (σ.set i (some v)) H
theorem U5{i:Nat}{x:Str}(hN:X.N.Nodup)(hi:X.N[i]? = some x)(hx:Loc X.env.scope x)(hf:X.fn x=true ∨ X.env.scope.names.lookup x=some .local:=by first|exact .inl rfl|exact .inr rfl|assumption):PG X (.Name x pos) (Ew i):=by
  intro pins s σ H v u Q I r h
  exact wpAny_assign_Name (FI I hN hi hx r (λ s' I'=>⟨_,H,I',h⟩) hf)
noncomputable def S3:TGs:=λ vs σ H Q=>vs=[]/\Q σ H
noncomputable def O7(t:TG)(u:TGs):TGs:=λ vs σ H Q=>∃ v r,vs=v :: r/\t v σ H λ σ' H'=>u r σ' H' Q
theorem U3:PGs X [] S3:=by
  intro pins s σ H vs us Q I r h
  obtain⟨e,h⟩:=h
  subst e
  cases r
  exact assignInOrder_nil ⟨σ,H,I,h⟩
theorem Rf{e:Expr}{es:List Expr}{t:TG}{u:TGs}(h1:PG X e t)(h2:PGs X es u)
    (hs:(assignEach (e :: es) X.env).map (·.2)=assign e X.env :: (assignEach es X.env).map (·.2):=by rfl):PGs X (e :: es) (O7 t u):=by
  intro pins s σ H vs us Q I r h
  obtain⟨v,vr,e1,h⟩:=h
  subst e1
  cases r with
  | cons r rr=>
    rw[hs]
    refine assignInOrder_cons (thn (h1 pins s σ H _ _ _ I r h) λ _ s1 ⟨σ1,H1,I1,q1⟩=>?_)
    exact h2 pins s1 σ1 H1 _ _ Q I1 rr q1
noncomputable def O6(K:PySem.W.Frag)(n:Nat)(t:TGs):TG:=λ v σ H Q=>∃ a xs,v=.ref a/\SqT K H a xs/\xs.length=n/\t xs σ H Q
theorem Vo{es:List Expr}{k:Nat}{t:TGs}{n:Nat}(hc:X.calm=true)(h:PGs X es t)
    (hn:(assignEach es X.env).length=n:=by rfl) (hst:(assignEach es X.env).findIdx? (·.1)=none:=by rfl):PG X (.Tuple es k pos) (O6 X.K n t):=by
  intro pins s σ H v u Q I r hw
  obtain⟨a,xs,e1,hq,hl,hw⟩:=hw
  subst e1
  cases r
  obtain⟨its,rv,ht,hz⟩:=I.tuple hq
  refine assign_Tuple_tuple (I.ok.hd hc) ht (by simp[hn,<- hl,rv.length]) hst λ h' hx=>?_
  have I1:Inv X pins σ H { s with heap:=h' }:=I.kept (t':=s.toks) λ b o e=>hx b o (Nat.ne_of_lt (Heap.lt_size e)) e
  exact h pins _ σ H xs _ Q I1 (by simpa using rv) hw
noncomputable def S0(to ti:TE)(t:SD):TG:=λ v σ H Q=>to σ H λ o H1=>ti σ H1 λ i H2=>t o i v H2 λ H3=>Q σ H3
theorem Vp{o i:Expr}{to ti:TE}{t:SD}(ho:PE X o to)(hi:PE X i ti)(hs:Wy X t)
    (ha:∀ v,assign (.Subscript o i pos) X.env v=(do
      let ov <- holding [v] (eval o X.env)
      let iv <- holding [v,ov] (eval i X.env)
      standAt pos
      holding [v,ov,iv] (setItem ov iv v)
      release [v,ov,iv] []):=by intro _;rfl):PG X (.Subscript o i pos) (S0 to ti t):=by
  intro pins s σ H v u Q I r h
  rw[ha]
  refine wpAny_bind (wpAny_holding (thn (ho pins s σ H _ I h) λ ov s1 ⟨x,H1,I1,r1,q1⟩=>?_))
  refine wpAny_bind (wpAny_holding (thn (hi pins s1 σ H1 _ I1 q1) λ iv s2 ⟨y,H2,I2,r2,q2⟩=>?_))
  refine wpAny_bind (wpAny_standAt (wpAny_bind (wpAny_holding (thn (hs pins s2 σ H2 x y v ov iv u _ I2 r1 r2 r q2) λ _ s3 ⟨H3,I3,q3⟩=>?_))))
  exact wpAny_release ⟨σ,H3,I3,q3⟩
noncomputable def FH(te:TE)(g:TG):TS:=λ D σ H=>te σ H λ x H1=>g x σ H1 D.nx
theorem Ow{tg e:Expr}{te:TE}{g:TG}(he:PE X e te)(hg:PG X tg g)(hs:swapsWithSole [tg] e pos.line X.env=pure false:=by rfl)(hw:swappedStores [tg] e X.env=pure none:=by rfl)
    (h1:(assignEach [tg] X.env).map (·.2)=[assign tg X.env]:=by rfl):PS X (.Assign [tg] e pos) (FH te g):=by
  intro pins s σ H D I h
  refine wpAny_Assign_stores (thn (he pins s σ H _ I h) λ v s1 ⟨x,H1,I1,r1,q1⟩=>?_) hs hw
  rw[h1]
  exact thn (hg pins s1 σ H1 x v _ I1 r1 q1) λ _ s2 q=>q
theorem Vh{i:Nat}{x:Str}{e:Expr}{te:TE}{pos':Pos}(hN:X.N.Nodup)(hi:X.N[i]? = some x)(hx:Loc X.env.scope x)(he:PE X e te)(hs:swapsWith e (some (.Name x pos')) pos.line X.env=pure false:=by rfl)(hf:X.fn x=true ∨ X.env.scope.names.lookup x=some .local:=by first|exact .inl rfl|exact .inr rfl|assumption) :
    PS X (.Assign [.Name x pos'] e pos) (FH te (Ew i)):=by
  intro pins s σ H D I h
  refine wpAny_Assign_Name (thn (he pins s σ H _ I h) λ v s1 ⟨y,H1,I1,r1,q1⟩=>?_) hs
  exact FI I1 hN hi hx r1 (λ s2 I2=>⟨_,H1,I2,q1⟩) hf
noncomputable def QU(i j:Nat)(ta:TA):TS:=λ D σ H=>ta σ H λ vs H1=>∃ v w,vs=[v,w]/\D.nx ((σ.set i (some v)).set j (some w)) H1
theorem Vj{i j:Nat}{x y:Str}{a b:Expr}{ta:TA}{px py pt:Pos}{kt k2 pt2}(hc:X.calm=true)(hN:X.N.Nodup)(hi:X.N[i]? = some x)(hj:X.N[j]? = some y)(hij:i ≠ j)
    (hx:X.env.scope.names.lookup x=some .local) (hy:X.env.scope.names.lookup y=some .local) (ha:PA X [a,b] ta)
    (hw:swappedStores [.Tuple [.Name x px,.Name y py] kt pt] (.Tuple [a,b] k2 pt2) X.env=pure (some [x,y]))
    (hs:swapsWithSole [.Tuple [.Name x px,.Name y py] kt pt] (.Tuple [a,b] k2 pt2) pos.line X.env=pure false:=by rfl) :
    PS X (.Assign [.Tuple [.Name x px,.Name y py] kt pt] (.Tuple [a,b] k2 pt2) pos) (QU i j ta):=by
  intro pins s σ H D I h
  rw[exec_Assign_arm]
  refine wpAny_bind (wpAny_standAt ?_)
  rw[hs]
  refine wpAny_bind (wpAny_pure ?_)
  rw[if_neg (by decide)]
  refine wpAny_bind (Tuple_ (thn (ha _ pins s σ H _ I h) λ us s1 ⟨vs,H1,I1,r1,q1⟩=>?_))
  obtain⟨v,w,e1,q1⟩:=q1
  subst e1
  obtain⟨u1,u2,rfl,rv,rw'⟩:∃ u1 u2,us=[u1,u2]/\RelV v u1/\RelV w u2:=by
    cases r1 with
    | cons p q=>
      cases q with
      | cons p' q'=>
        cases q'
        exact⟨_,_,rfl,p,p'⟩
  refine wpAny_newObj_type ?_ (by show 2 <= sizeLine;decide)
  have I2:Inv X pins σ H1 { s1 with heap:=s1.heap.push { cls:=.type "tuple",data:=.seq [u1,u2].toArray } }:=I1.kept (t':=s1.toks) λ b o e=>Heap.get?_push_of_some _ e
  rw[hw]
  refine wpAny_bind (wpAny_pure ?_)
  show wpAny (model X.prog X.w) X.A (do rule "assign.swapped-stores";let items <- unpackItems (.ref s1.heap.objs.size) 2 none;assignInOrder [λ v=>bindName X.env y v,λ v=>bindName X.env x v] items.reverse;pure Flow.next) _ _ _
  refine wpAny_bind (wpAny_rule (wpAny_bind (unpackItems_tuple (items:=#[u1,u2]) (I.ok.hd hc) (IsTup.new s1.heap _) λ h' hx'=>?_)))
  have I3:=I2.kept (h':=h') (t':=s1.toks) λ b o e=>hx' b o (Nat.ne_of_lt (Heap.lt_size e)) e
  show wpAny _ _ (assignInOrder [λ v=>bindName X.env y v,λ v=>bindName X.env x v] [u2,u1] >>= λ _=>pure Flow.next) _ _ _
  refine wpAny_bind (assignInOrder_cons (wpAny_bindName (FI I3 hN hj (.inl hy) rw' (λ s2 I4=>?_) (.inr hy))))
  refine assignInOrder_cons (wpAny_bindName (FI I4 hN hi (.inl hx) rv (λ s3 I5=>assignInOrder_nil (wpAny_pure ?_)) (.inr hx)))
  rw[List.set_comm _ _ (Ne.symm hij)]at I5
  exact⟨_,H1,I5,q1⟩
noncomputable def L8(i:Nat)(te:TE)(ti:TIp):TS:=λ D σ H=>∃ x,σ[i]? = some (some x)/\te σ H λ y H1=>ti x y H1 λ z H2=>D.nx (σ.set i (some z)) H2
theorem Ov{i:Nat}{x:Str}{e:Expr}{te:TE}{op:Operator}{ti:TIp}{pos':Pos}(hN:X.N.Nodup)(hi:X.N[i]? = some x)(hx:Loc X.env.scope x)(he:PE X e te)(ho:PIp X op ti)(hf:X.fn x=true ∨ X.env.scope.names.lookup x=some .local:=by first|exact .inl rfl|exact .inr rfl|assumption) :
    PS X (.AugAssign (.Name x pos') op e pos) (L8 i te ti):=by
  intro pins s σ H D I h
  obtain⟨v,e1,h⟩:=h
  obtain⟨m,hn,hl⟩:=I.loc
  have vis:Vis X.env.scope x:=by rcases hx with k|k;exact .inl k;exact .inr (.inl k)
  obtain⟨u,r,l⟩:=hl i x v hi e1 vis
  refine wpAny_AugAssign_Name ?_
  have go:wpAny (model X.prog X.w) X.A (eval e X.env) (λ w s₂=>wpAny (model X.prog X.w) X.A (inplaceOp op u w) (λ r s₃=>wpAny (model X.prog X.w) X.A (storeName X.env x r) (λ _=>SP X pins D .next) X.xe s₃) X.xe s₂) X.xe s:=by
    refine thn (he pins s σ H _ I h) λ w s1 ⟨y,H1,I1,r1,q1⟩=>?_
    refine thn (ho pins s1 σ H1 v y u w _ I1 r r1 q1) λ z s2 ⟨zv,H2,I2,r2,q2⟩=>?_
    exact FI I2 hN hi hx r2 (λ s3 I3=>⟨_,H2,I3,q2⟩) hf
  rcases l with⟨hk,hm⟩|⟨hk,c,hc,hcell⟩
  . exact wpAny_loadName_local I.ok.kind hk hn hm go
  . rcases hk with hk|hk
    . exact wpAny_loadName_cell I.ok.kind hk hc hcell go
    . rcases hx with k|k
      . have:X.env.scope.names.lookup x=some .free:=hk
        rw[k]at this;cases this
      . have:X.env.scope.names.lookup x=some .free:=hk
        rw[k]at this;cases this
noncomputable def ipI(f:Int->Int->Int):TIp:=λ x y H Q=>∃ i j,x=.int i/\y=.int j/\Q (.int (f i j)) H
theorem WM:PIp X .Add (ipI λ i j=>i + j):=by
  intro pins s σ H x y v u Q I r1 r2 h
  obtain⟨i,j,e1,e2,q⟩:=h
  subst e1;subst e2
  obtain⟨t,rfl⟩:=r1
  obtain⟨t',rfl⟩:=r2
  exact iadd_int ⟨.int _,H,I.tok _,⟨_,rfl⟩,q⟩
end
section
variable{X:Cx}{pos:Pos}
noncomputable def L0(c:TT)(tb:TS):TS:=λ D σ H=>∃ W:Nat->St->Hp->Prop,(∃ m,W m σ H)/\∀ m σ H,W m σ H ->
  c σ H λ b H1=>if b=true then ∃ N:St->Hp->Prop,(∀ σ' H',N σ' H'->∃ m',m' < m/\W m' σ' H')/\tb { D with nx:=N,ct:=N,bk:=D.nx } σ H1 else D.nx σ H1
theorem RZ{c:Expr}{body:List Stmt}{tc:TT}{tb:TS}(hp:PassesOwn (model X.prog X.w) X.A X.env X.xe)(hc:PT X c tc)(hb:PSs X body tb):PS X (.While c body [] pos) (L0 tc tb):=by
  intro pins s σ H D I h
  obtain⟨W,⟨m0,w0⟩,turn⟩:=h
  refine wpAny_While (codeAny_whileLoop (λ n s'=>∃ σ' H',Inv X pins σ' H' s'/\W n σ' H') ?_ m0 ⟨σ,H,I,w0⟩)
  rintro n s1 ⟨σ1,H1,I1,w1⟩
  refine wpAny_passesOwn hp (thn (hc pins s1 σ1 H1 _ I1 (turn n σ1 H1 w1)) λ b s2 ⟨H2,I2,q2⟩=>?_)
  cases b with
  | true=>
    obtain⟨N,hN,q2⟩:=q2
    rw[if_pos rfl]
    refine wpAny_passesOwn hp (thn (hb pins s2 σ1 H2 _ I2 q2) λ f s3 q3=>?_)
    cases f with
    | next=>
      obtain⟨σ3,H3,I3,n3⟩:=q3
      obtain⟨m',hm,w3⟩:=hN σ3 H3 n3
      exact⟨m',hm,σ3,H3,I3,w3⟩
    | cont=>
      obtain⟨σ3,H3,I3,n3⟩:=q3
      obtain⟨m',hm,w3⟩:=hN σ3 H3 n3
      exact⟨m',hm,σ3,H3,I3,w3⟩
    | brk=>exact q3
    | ret v=>exact q3
  | false=>
    rw[if_neg Bool.false_ne_true]
    exact wpAny_execs_nil ⟨σ1,H2,I2,q2⟩
end
structure It where
  go:Nat->Hp->Prop
  yld:Nat->Hp->V->Hp->Prop
  stop:Nat->Hp->Prop
noncomputable def C6(X:Cx)(pins:List (Addr × Obj))(H:Hp)(b:Addr):Prop:=
  H b=none/\b ≠ X.env.locals/\b ∉ X.fs/\(b ∈ X.ex ∨ X.s₀.heap.objs.size <= b)/\(∀ x c,X.env.cells.lookup x=some c->c ≠ b)/\∀ p ∈ X.pn ++ pins,p.1 ≠ b
theorem Inv.fpOk{X:Cx}{pins:List (Addr × Obj)}{σ:St}{H H':Hp}{s:Shared}{b:Addr}(I:Inv X pins σ H s)(hb:s.heap.objs.size <= b)(hn:H' b=none):C6 X pins H' b:=by
  refine⟨hn,Nat.ne_of_gt (Nat.lt_of_lt_of_le I.lt hb),I.nofs hb,.inr (Nat.le_trans I.sz hb),λ x c e z=>?_,λ p hp z=>?_⟩
  . obtain⟨v,q⟩:=I.cell x c e
    exact absurd (Nat.lt_of_lt_of_le q.lt (by rw[z];exact hb)) (Nat.lt_irrefl _)
  . exact absurd (Nat.lt_of_lt_of_le (Heap.lt_size (I.pin p hp).1) (by rw[z];exact hb)) (Nat.lt_irrefl _)
structure Turn(P:Program)(w:World)(K:PySem.W.Frag)(tg:Expr)(J:It)(fp:List Addr)(it:Addr)(tn:Nat->Heap->Prop):Prop where
  mem:it ∈ fp
  obj:∀ i h,tn i h->∀ b ∈ fp,∃ o,h.get? b=some o/\∀ v,o.data ≠ .cell v
  keep:∀ i h h',tn i h->(∀ b ∈ fp,∀ o,h.get? b=some o->h'.get? b=some o)->tn i h'
  item:∀ (X:Cx),X.prog=P->X.w=w->X.K=K->X.calm=true->∀ (i:Nat) (pins:List (Addr × Obj)) (s:Shared) (σ:St) (H:Hp) (E:Value->Shared->Prop),Inv X pins σ H s->(∀ b ∈ fp,C6 X pins H b)->tn i s.heap->J.go i H ->
    wpAny (model P w) X.A (pyNext (.ref it)) (λ r s1=>∃ u,r=some u /\
      wpAny (model P w) X.A (letOwnedTupleGo tg (.ref it) u) (λ _ s2=>∃ x H',Inv X pins σ H' s2/\RelV x u/\J.yld i H x H'/\tn (i + 1) s2.heap/\∀ b ∈ fp,H' b=none) E s1) E s
  done:∀ (X:Cx),X.prog=P->X.w=w->X.K=K->X.calm=true->∀ (i:Nat) (pins:List (Addr × Obj)) (s:Shared) (σ:St) (H:Hp) (E:Value->Shared->Prop),Inv X pins σ H s->(∀ b ∈ fp,C6 X pins H b)->tn i s.heap->J.stop i H ->
    wpAny (model P w) X.A (pyNext (.ref it)) (λ r s1=>r=none/\Inv X pins σ H s1) E s
  self:∀ (A:Around) (i:Nat) (s:Shared) (Q:Value->Shared->Prop) (E:Value->Shared->Prop),tn i s.heap->Q (.ref it) s->wpAny (model P w) A (pyIter (.ref it)) Q E s
noncomputable abbrev TI:=St->Hp->(It->Hp->Prop)->Prop
noncomputable def PIE(X:Cx)(pins:List (Addr × Obj))(σ:St)(tg:Expr)(R:It->Hp->Prop)(itv:Value)(s2:Shared):Prop:=
  ∃ (it:Addr) (fp:List Addr) (tn:Nat->Heap->Prop) (J:It) (H':Hp),itv=.ref it/\Inv X pins σ H' s2/\Turn X.prog X.w X.K tg J fp it tn/\tn 0 s2.heap/\(∀ b ∈ fp,C6 X pins H' b)/\R J H'
noncomputable def PI(X:Cx)(tg iter:Expr)(wi:TI):Prop:=
  ∀ (pins:List (Addr × Obj)) (s:Shared) (σ:St) (H:Hp) (R:It->Hp->Prop),Inv X pins σ H s->wi σ H R ->
    wpAny (model X.prog X.w) X.A (eval iter X.env) (λ v s1=>wpAny (model X.prog X.w) X.A (pyIter v) (PIE X pins σ tg R) X.xe s1) X.xe s
theorem O5{M:Model}{A:Around}{E:Value->Shared->Prop}{s:Shared}{tg:Expr}{it:Addr}{u:Value}{o:Obj}{n:String}{vs:Array Value}{Q:Unit->Shared->Prop}(ho:s.heap.get? it=some o)(hc:o.cls=.type n)(hd:o.data=.fields vs)
    (hn:["enumerate","zip","dict_itemiterator","dict_reverseitemiterator","odict_iterator","itertools.zip_longest","itertools.pairwise"].contains n=false) (hQ:Q () s):wpAny M A (letOwnedTupleGo tg (.ref it) u) Q E s:=by
  unfold letOwnedTupleGo
  cases tg <;> first
    | exact wpAny_pure hQ
    | (cases u <;> first
        | exact wpAny_pure hQ
        | (refine wpAny_bind (wpAny_load ho ?_)
           rw[hc,hd]
           show wpAny M A (if(["enumerate","zip","dict_itemiterator","dict_reverseitemiterator","odict_iterator","itertools.zip_longest","itertools.pairwise"].contains n && vs[0]? == some (rawInt _))=true then _ else _) Q E s
           rw[if_neg (by intro h;rw[hn,Bool.false_and]at h;cases h)]
           exact wpAny_pure hQ))
noncomputable def Itl(K:PySem.W.Frag)(a:Addr):It:=
  ⟨λ i H=>∃ xs x,SqL K H a xs/\xs[i]? = some x,λ i H x H'=>H'=H/\∀ xs,SqL K H a xs->xs[i]? = some x,λ i H=>∃ xs,SqL K H a xs/\xs.length <= i⟩
noncomputable def Itt(K:PySem.W.Frag)(a:Addr):It:=
  ⟨λ i H=>∃ xs x,SqT K H a xs/\xs[i]? = some x,λ i H x H'=>H'=H/\∀ xs,SqT K H a xs->xs[i]? = some x,λ i H=>∃ xs,SqT K H a xs/\xs.length <= i⟩
noncomputable def Itr(lo:Int)(n:Nat):It:=⟨λ i _=>i < n,λ i H x H'=>H'=H/\x=.int (lo + i),λ i _=>n <= i⟩
theorem OW{P:Program}{w:World}{K:PySem.W.Frag}{tg:Expr}(a it:Addr):Turn P w K tg (Itl K a) [it] it (λ i h=>h.IsListIter it a i) where
  mem:=by simp
  obj:=λ i h st b hb=>by
    have e:b=it:=by simpa using hb
    subst e
    obtain⟨o,e,c,d⟩:=st
    exact⟨o,e,λ v z=>by rw[d]at z;cases z⟩
  keep:=λ i h h' st k=>st.at λ o e=>k it (by simp) o e
  item:=by
    intro X hP hw hK hc i pins s σ H E I hf st hg
    subst hP hw hK
    obtain⟨xs,x,hq,hx⟩:=hg
    obtain⟨its,rv,p,hz⟩:=I.list hq
    obtain⟨u,hu,ru⟩:=rv.get hx
    obtain⟨f0,f1,f2,f3,f4,f5⟩:=hf it (by simp)
    refine wpAny_pyNext_list_item st p.isList (x:=u) (by simpa using hu) λ h' st' sb=>?_
    have I1:Inv X pins σ H { s with heap:=h' }:=I.turned (t':=s.toks) (λ b o hb e=>(sb.2 b hb).trans e) f0 f1 f3 f4 f5
    obtain⟨o,e,c,d⟩:=id st'
    exact⟨u,rfl,O5 (s:={ s with heap:=h' }) e c d (by decide) ⟨x,H,I1,ru,⟨rfl,λ ys hy=>by rw[I.list_inj hy hq];exact hx⟩,st',λ b hb=>(hf b hb).1⟩⟩
  done:=by
    intro X hP hw hK hc i pins s σ H E I hf st hg
    subst hP hw hK
    obtain⟨xs,hq,hx⟩:=hg
    obtain⟨its,rv,p,hz⟩:=I.list hq
    obtain⟨f0,f1,f2,f3,f4,f5⟩:=hf it (by simp)
    have hl:=rv.length
    exact wpAny_pyNext_list_end (I.ok.hd hc) st p.isList (by simp;omega) λ h' eb=>⟨rfl,I.turned (t':=s.toks) (λ b o hb e=>eb b o hb e) f0 f1 f3 f4 f5⟩
  self:=λ _ _ _ _ _ st h=>wpAny_pyIter_listiter st h
theorem NQ{P:Program}{w:World}{K:PySem.W.Frag}{tg:Expr}(a it:Addr):Turn P w K tg (Itt K a) [it] it (λ i h=>h.IsTupleIter it a i) where
  mem:=by simp
  obj:=λ i h st b hb=>by
    have e:b=it:=by simpa using hb
    subst e
    obtain⟨o,e,c,d⟩:=st
    exact⟨o,e,λ v z=>by rw[d]at z;cases z⟩
  keep:=λ i h h' st k=>st.at λ o e=>k it (by simp) o e
  item:=by
    intro X hP hw hK hc i pins s σ H E I hf st hg
    subst hP hw hK
    obtain⟨xs,x,hq,hx⟩:=hg
    obtain⟨its,rv,p,hz⟩:=I.tuple hq
    obtain⟨u,hu,ru⟩:=rv.get hx
    obtain⟨f0,f1,f2,f3,f4,f5⟩:=hf it (by simp)
    refine wpAny_pyNext_tuple_item st (show s.heap.IsTuple a its.toArray from p) (x:=u) (by simpa using hu) λ h' st' sb=>?_
    have I1:Inv X pins σ H { s with heap:=h' }:=I.turned (t':=s.toks) (λ b o hb e=>(sb.2 b hb).trans e) f0 f1 f3 f4 f5
    obtain⟨o,e,c,d⟩:=id st'
    exact⟨u,rfl,O5 (s:={ s with heap:=h' }) e c d (by decide) ⟨x,H,I1,ru,⟨rfl,λ ys hy=>by rw[I.tuple_inj hy hq];exact hx⟩,st',λ b hb=>(hf b hb).1⟩⟩
  done:=by
    intro X hP hw hK hc i pins s σ H E I hf st hg
    subst hP hw hK
    obtain⟨xs,hq,hx⟩:=hg
    obtain⟨its,rv,p,hz⟩:=I.tuple hq
    obtain⟨f0,f1,f2,f3,f4,f5⟩:=hf it (by simp)
    have hl:=rv.length
    exact wpAny_pyNext_tuple_end (I.ok.hd hc) st (show s.heap.IsTuple a its.toArray from p) (by simp;omega) λ h' eb=>⟨rfl,I.turned (t':=s.toks) (λ b o hb e=>eb b o hb e) f0 f1 f3 f4 f5⟩
  self:=λ _ _ _ _ _ st h=>wpAny_pyIter_tupleiter st h
theorem NR{P:Program}{w:World}{K:PySem.W.Frag}{tg:Expr}(it:Addr)(lo:Int)(n:Nat):Turn P w K tg (Itr lo n) [it] it (λ i h=>IsRangeIter h it (lo + (i:Nat) * 1) ((n:Int) - (i:Nat)) 1) where
  mem:=by simp
  obj:=λ i h st b hb=>by
    have e:b=it:=by simpa using hb
    subst e
    exact⟨_,st,λ v z=>by
      have z':Data.fields _=Data.cell v:=z
      cases z'⟩
  keep:=λ i h h' st k=>k it (by simp) _ st
  item:=by
    intro X hP hw hK hc i pins s σ H E I hf st hg
    subst hP hw hK
    obtain⟨f0,f1,f2,f3,f4,f5⟩:=hf it (by simp)
    have W:=Walks.range (prog:=X.prog) (w:=X.w) (I.ok.hd hc) it lo 1 n
    refine W.item i s _ _ hg st λ v h' tk hv st' kk=>?_
    obtain⟨t,rfl⟩:=hv
    have I1:Inv X pins σ H { s with heap:=h',toks:=tk }:=I.turned (λ b o hb e=>kk b o (by simpa using hb) e) f0 f1 f3 f4 f5
    refine⟨_,rfl,O5 (s:={ s with heap:=h',toks:=tk }) (n:="range_iterator") st' rfl rfl (by decide) ⟨.int (lo + i),H,I1,⟨t,?_⟩,⟨rfl,rfl⟩,st',λ b hb=>(hf b hb).1⟩⟩
    rw[Int.mul_one]
  done:=by
    intro X hP hw hK hc i pins s σ H E I hf st hg
    subst hP hw hK
    obtain⟨f0,f1,f2,f3,f4,f5⟩:=hf it (by simp)
    exact wpAny_pyNext_range_end (I.ok.hd hc) st (by have:n <= i:=hg;omega) λ h' eb=>⟨rfl,I.turned (t':=s.toks) (λ b o hb e=>eb b o hb e) f0 f1 f3 f4 f5⟩
  self:=λ _ _ _ _ _ st h=>wpAny_pyIter_rangeiter st h
end L2
namespace L2
open PySem PySem.Spec PyProof.Rows
section
variable{X:Cx}{tg:Expr}
noncomputable def JT(K:PySem.W.Frag)(tl:TE):TI:=λ σ H R=>tl σ H λ x H1=>∃ a,x=.ref a/\(∃ xs,SqL K H1 a xs)/\R (Itl K a) H1
noncomputable def M4(K:PySem.W.Frag)(tl:TE):TI:=λ σ H R=>tl σ H λ x H1=>∃ a,x=.ref a/\(∃ xs,SqT K H1 a xs)/\R (Itt K a) H1
theorem U1{l:Expr}{tl:TE}(hl:PE X l tl):PI X tg l (JT X.K tl):=by
  intro pins s σ H R I h
  refine thn (hl pins s σ H _ I h) λ v s1 ⟨x,H1,I1,r1,q1⟩=>?_
  obtain⟨a,e,⟨xs,hq⟩,q⟩:=q1
  subst e
  cases r1
  obtain⟨its,rv,p,hz⟩:=I1.list hq
  refine wpAny_pyIter_list p.isList ?_
  refine⟨s1.heap.objs.size,[s1.heap.objs.size],_,_,H1,rfl,I1.kept (t':=s1.toks) λ b o e=>Heap.get?_push_of_some _ e,OW a _,⟨_,Heap.get?_push_size _ rfl,rfl,rfl⟩,λ b hb=>?_,q⟩
  have e:b=s1.heap.objs.size:=by simpa using hb
  subst e
  exact I1.fpOk (Nat.le_refl _) (I1.hok.fresh (Nat.le_refl _))
theorem Vn{l:Expr}{tl:TE}(hl:PE X l tl):PI X tg l (M4 X.K tl):=by
  intro pins s σ H R I h
  refine thn (hl pins s σ H _ I h) λ v s1 ⟨x,H1,I1,r1,q1⟩=>?_
  obtain⟨a,e,⟨xs,hq⟩,q⟩:=q1
  subst e
  cases r1
  obtain⟨its,rv,p,hz⟩:=I1.tuple hq
  refine wpAny_pyIter_tuple (show s1.heap.IsTuple a its.toArray from p) ?_
  refine⟨s1.heap.objs.size,[s1.heap.objs.size],_,_,H1,rfl,I1.kept (t':=s1.toks) λ b o e=>Heap.get?_push_of_some _ e,NQ a _,⟨_,Heap.get?_push_size _ rfl,rfl,rfl⟩,λ b hb=>?_,q⟩
  have e:b=s1.heap.objs.size:=by simpa using hb
  subst e
  exact I1.fpOk (Nat.le_refl _) (I1.hok.fresh (Nat.le_refl _))
theorem Ld{pins:List (Addr × Obj)}{σ:St}{H:Hp}{s:Shared}{R:It->Hp->Prop}{E:Value->Shared->Prop}{lo hi:Int}{t u v:Tok}{tk:Nat}(I:Inv X pins σ H s)(h1:-(2 ^ 62) <= lo)(h2:lo < 2 ^ 62)(h3:-(2 ^ 62) <= hi)(h4:hi < 2 ^ 62)
    (q:R (Itr lo (hi - lo).toNat) H):wpAny (model X.prog X.w) X.A (pyIter (.ref s.heap.objs.size)) (PIE X pins σ tg R) E { s with heap:=s.heap.push { cls:=.type "range",data:=.fields #[.int lo t,.int hi u,.int 1 v] },toks:=tk }:=by
  refine wpAny_pyIter_range (IsRange.new ..) (small_one h1 h2 h3 h4) ?_
  have I1:Inv X pins σ H { s with heap:=s.heap.push { cls:=.type "range",data:=.fields #[.int lo t,.int hi u,.int 1 v] },toks:=tk }:=I.kept λ b o e=>Heap.get?_push_of_some _ e
  refine⟨(s.heap.push { cls:=.type "range",data:=.fields #[.int lo t,.int hi u,.int 1 v] }).objs.size,[(s.heap.push { cls:=.type "range",data:=.fields #[.int lo t,.int hi u,.int 1 v] }).objs.size],_,_,H,rfl,
    I1.kept (t':=tk) λ b o e=>Heap.get?_push_of_some _ e,NR _ lo (hi - lo).toNat,?_,λ b hb=>?_,q⟩
  . have e1:lo + ((0:Nat):Int) * 1=lo:=by simp
    have e2:(((hi - lo).toNat:Nat):Int) - ((0:Nat):Int)=Builtin.Range.rangeSize lo hi 1:=by rw[rangeSize_one];split <;> omega
    show IsRangeIter _ _ (lo + ((0:Nat):Int) * 1) ((((hi - lo).toNat:Nat):Int) - ((0:Nat):Int)) 1
    rw[e1,e2]
    exact Heap.get?_push_size _ rfl
  . have e:b=(s.heap.push { cls:=.type "range",data:=.fields #[.int lo t,.int hi u,.int 1 v] }).objs.size:=by simpa using hb
    subst e
    exact I1.fpOk (Nat.le_refl _) (I1.hok.fresh (Nat.le_refl _))
noncomputable def O2(ta:TA):TI:=λ σ H R=>ta σ H λ vs H1=>∃ j:Int,vs=[.int j]/\-(2 ^ 62) <= j/\j < 2 ^ 62/\R (Itr 0 j.toNat) H1
noncomputable def O1(ta:TA):TI:=λ σ H R=>ta σ H λ vs H1=>∃ i j:Int,vs=[.int i,.int j]/\(-(2 ^ 62) <= i/\i < 2 ^ 62/\-(2 ^ 62) <= j/\j < 2 ^ 62)/\R (Itr i (j - i).toNat) H1
theorem P2{a:Expr}{ta:TA}{p pos:Pos}(hg:Gl X "range")(hm:X.mg "range"=none)(ha:PA X [a] ta)(hs:starEach [a] X.env=[(false,eval a X.env)]:=by rfl):PI X tg (.Call (.Name "range" p) [a] [] pos) (O2 ta):=by
  intro pins s σ H R I h
  refine Call_ (G5 I hg hm boot_range (PyProof.Rows.callWith_type1 (thn (ha pos pins s σ H _ I h) λ us s1 ⟨vs,H1,I1,r1,q1⟩=>?_) hs rfl))
  obtain⟨j,e,q1,q2,q⟩:=q1
  subst e
  cases r1 with
  | cons r rr=>
    cases rr
    obtain⟨t,rfl⟩:=r
    exact call_range_1 (Ld I1 (by omega) (by omega) q1 q2 (by simpa using q))
theorem P1{a b:Expr}{ta:TA}{p pos:Pos}(hg:Gl X "range")(hm:X.mg "range"=none)(ha:PA X [a,b] ta)(hs:starEach [a,b] X.env=[(false,eval a X.env),(false,eval b X.env)]:=by rfl)(hs2:starEach [b] X.env=[(false,eval b X.env)]:=by rfl) :
    PI X tg (.Call (.Name "range" p) [a,b] [] pos) (O1 ta):=by
  intro pins s σ H R I h
  refine Call_ (G5 I hg hm boot_range (PyProof.Rows.callWith_type1 (thn (ha pos pins s σ H _ I h) λ us s1 ⟨vs,H1,I1,r1,q1⟩=>?_) (by rw[hs,hs2]) (by rw[hs2];rfl)))
  obtain⟨i,j,e,⟨q1,q2,q3,q4⟩,q⟩:=q1
  subst e
  cases r1 with
  | cons r rr=>
    cases rr with
    | cons r' rr=>
      cases rr
      obtain⟨t,rfl⟩:=r
      obtain⟨t',rfl⟩:=r'
      exact call_range_2 (Ld I1 q1 q2 q3 q4 q)
noncomputable def Qa(wi:TI)(g:TG)(tb:TS):TS:=λ D σ H=>wi σ H λ J H1=>∃ W:Nat->Nat->St->Hp->Prop,(∃ m,W 0 m σ H1)/\∀ i m σ H,W i m σ H ->
  (J.stop i H/\D.nx σ H) ∨ (J.go i H/\∃ N:St->Hp->Prop,(∀ σ' H',N σ' H'->∃ m',m' < m/\W (i + 1) m' σ' H')/\∀ x H',J.yld i H x H'->g x σ H' λ σ2 H2=>tb { D with nx:=N,ct:=N,bk:=D.nx } σ2 H2)
noncomputable def E5(fp:List Addr)(h:Heap):List (Addr × Obj):=fp.filterMap λ b=>(h.get? b).map λ o=>(b,o)
theorem BQ{fp:List Addr}{h:Heap}{b:Addr}{o:Obj}(hb:b ∈ fp)(e:h.get? b=some o):(b,o) ∈ E5 fp h:=List.mem_filterMap.mpr ⟨b,hb,by rw[e];rfl⟩
theorem P9{fp:List Addr}{h:Heap}{p:Addr × Obj}(hp:p ∈ E5 fp h):p.1 ∈ fp/\h.get? p.1=some p.2:=by
  obtain⟨b,hb,e⟩:=List.mem_filterMap.mp hp
  cases q:h.get? b with
  | none=>rw[q]at e;cases e
  | some o=>
    rw[q]at e
    have e':(b,o)=p:=Option.some.inj e
    subst e'
    exact⟨hb,q⟩
theorem Inv.pinned{pins:List (Addr × Obj)}{σ:St}{H:Hp}{s:Shared}{fp:List Addr}(I:Inv X pins σ H s)(hf:∀ b ∈ fp,C6 X pins H b)(ho:∀ b ∈ fp,∃ o,s.heap.get? b=some o/\∀ v,o.data ≠ .cell v):Inv X (pins ++ E5 fp s.heap) σ H s:=
  I.pins_of λ p hp=>(List.mem_append.mp hp).elim (λ z=>I.pin p (List.mem_append_right _ z)) λ z=>by
    obtain⟨hb,e⟩:=P9 z
    obtain⟨f0,f1,f2,_⟩:=hf p.1 hb
    obtain⟨o,e',d⟩:=ho p.1 hb
    rw[e]at e';cases e'
    exact⟨e,f0,f1,f2,d⟩
theorem Inv.unpinned{pins pl:List (Addr × Obj)}{σ:St}{H:Hp}{s:Shared}(I:Inv X (pins ++ pl) σ H s):Inv X pins σ H s:=I.pins_of λ p hp=>I.pin p (List.mem_append_right _ (List.mem_append_left _ hp))
theorem Vk{iter:Expr}{body:List Stmt}{wi:TI}{g:TG}{tb:TS}{pos:Pos}(hp:PassesOwn (model X.prog X.w) X.A X.env X.xe)(hc:X.calm=true)(hi:PI X tg iter wi)(hg:PG X tg g)(hb:PSs X body tb)
    (hs:∀ x,foldedSetIterable iter X.env x=pure x:=by intro _;rfl):PS X (.For tg iter body [] pos) (Qa wi g tb):=by
  intro pins s σ H D I h
  refine wpAny_For (thn (hi pins s σ H _ I h) λ v s1 h1=>thn h1 λ itv s2 h2=>?_) hs
  obtain⟨it,fp,tn,J,H2,e,I2,T,st2,f2,W,⟨m0,w0⟩,turn⟩:=h2
  subst e
  -- what stays true of the iterator's objects through the loop
  have stat:∀ {H':Hp},(∀ b ∈ fp,H' b=none)->∀ b ∈ fp,C6 X pins H' b:=λ hn b hb=>⟨hn b hb,(f2 b hb).2⟩
  refine codeAny_forLoop_any (λ n s'=>∃ i σ' H',Inv X pins σ' H' s'/\tn i s'.heap/\(∀ b ∈ fp,H' b=none)/\W i n σ' H') ?_ m0 ⟨0,σ,H2,I2,st2,λ b hb=>(f2 b hb).1,w0⟩
  rintro n s3 ⟨i,σ3,H3,I3,st3,fr3,w3⟩
  rcases turn i n σ3 H3 w3 with⟨stop,qn⟩|⟨go,N,hN,step⟩
  . refine wpAny_passesOwn hp (thn (T.done X rfl rfl rfl hc i pins s3 σ3 H3 X.xe I3 (stat fr3) st3 stop) λ r s4 ⟨hr,I4⟩=>?_)
    subst hr
    exact wpAny_execs_nil ⟨σ3,H3,I4,qn⟩
  . refine wpAny_passesOwn hp (thn (T.item X rfl rfl rfl hc i pins s3 σ3 H3 X.xe I3 (stat fr3) st3 go) λ r s4 ⟨u,hr,h4⟩=>?_)
    subst hr
    refine wpAny_passesOwn hp (thn h4 λ _ s5 ⟨x,H5,I5,r5,y5,st5,fr5⟩=>?_)
    have I5':=I5.pinned (stat fr5) (T.obj _ _ st5)
    refine wpAny_passesOwn hp (thn (hg _ s5 σ3 H5 x u _ I5' r5 (step x H5 y5)) λ _ s6 ⟨σ6,H6,I6,q6⟩=>?_)
    refine wpAny_passesOwn hp (thn (hb _ s6 σ6 H6 _ I6 q6) λ f s7 q7=>?_)
    have again:∀ {σ7:St} {H7:Hp},Inv X (pins ++ E5 fp s5.heap) σ7 H7 s7->N σ7 H7->∃ m,m < n/\∃ i σ' H',Inv X pins σ' H' s7/\tn i s7.heap/\(∀ b ∈ fp,H' b=none)/\W i m σ' H':=λ {σ7 H7} I7 n7=>by
      obtain⟨m',hm,w7⟩:=hN σ7 H7 n7
      refine⟨m',hm,i + 1,σ7,H7,I7.unpinned,T.keep _ _ _ st5 λ b hb o e=>(I7.pin (b,o) (List.mem_append_right _ (List.mem_append_right _ (BQ hb e)))).1,λ b hb=>?_,w7⟩
      obtain⟨o,e,d⟩:=T.obj _ _ st5 b hb
      exact(I7.pin (b,o) (List.mem_append_right _ (List.mem_append_right _ (BQ hb e)))).2.1
    cases f with
    | next=>obtain⟨σ7,H7,I7,n7⟩:=q7;exact again I7 n7
    | cont=>obtain⟨σ7,H7,I7,n7⟩:=q7;exact again I7 n7
    | brk=>obtain⟨σ7,H7,I7,q7⟩:=q7;exact⟨σ7,H7,I7.unpinned,q7⟩
    | ret v=>obtain⟨x7,σ7,H7,I7,r7,q7⟩:=q7;exact⟨x7,σ7,H7,I7.unpinned,r7,q7⟩
end
end L2
namespace L2
open PySem PySem.Spec PyProof.Rows
noncomputable abbrev R2:=V->V->Hp->VK->Prop
noncomputable def OpR(X:Cx)(f:Value->Value->Sem Value)(r:R2):Prop:=
  ∀ (pins:List (Addr × Obj)) (s:Shared) (σ:St) (H:Hp) (x y:V) (v u:Value) (Q:VK),Inv X pins σ H s->RelV x v->RelV y u->r x y H Q ->
    wpAny (model X.prog X.w) X.A (f v u) (EP X pins σ Q) X.xe s
noncomputable def UnR(X:Cx)(f:Value->Sem Value)(r:V->Hp->VK->Prop):Prop:=
  ∀ (pins:List (Addr × Obj)) (s:Shared) (σ:St) (H:Hp) (x:V) (v:Value) (Q:VK),Inv X pins σ H s->RelV x v->r x H Q ->
    wpAny (model X.prog X.w) X.A (f v) (EP X pins σ Q) X.xe s
noncomputable def CallR(X:Cx)(f:Value)(r:List V->Hp->VK->Prop):Prop:=
  ∀ (pins:List (Addr × Obj)) (s:Shared) (σ:St) (H:Hp) (xs:List V) (us:List Value) (Q:VK),Inv X pins σ H s->Vals xs us->r xs H Q ->
    wpAny (model X.prog X.w) X.A (call f us) (EP X pins σ Q) X.xe s
noncomputable def YM(X:Cx)(r:V->Hp->(Bool->Hp->Prop)->Prop):Prop:=
  ∀ (pins:List (Addr × Obj)) (s:Shared) (σ:St) (H:Hp) (x:V) (v:Value) (Q:Bool->Hp->Prop),Inv X pins σ H s->RelV x v->r x H Q ->
    wpAny (model X.prog X.w) X.A (truthy v) (TP X pins σ Q) X.xe s
noncomputable def tOp(r:R2)(ta tb:TE):TE:=λ σ H Q=>ta σ H λ x H1=>tb σ H1 λ y H2=>r x y H2 Q
noncomputable def tUn(r:V->Hp->VK->Prop)(ta:TE):TE:=λ σ H Q=>ta σ H λ x H1=>r x H1 Q
noncomputable def rI(C:Int->Int->Prop)(g:Int->Int->V):R2:=λ x y H Q=>∃ i j,x=.int i/\y=.int j/\C i j/\Q (g i j) H
noncomputable def rI0(g:Int->Int->V):R2:=λ x y H Q=>∃ i j,x=.int i/\y=.int j/\Q (g i j) H
noncomputable def rU(g:Int->V):V->Hp->VK->Prop:=λ x H Q=>∃ i,x=.int i/\Q (g i) H
section
variable{X:Cx}{a b c:Expr}{ta tb tc:TE}{pos:Pos}
theorem SC(ha:PE X a ta)(hb:PE X b tb){pins:List (Addr × Obj)}{s:Shared}{σ:St}{H:Hp}{R:V->V->Hp->Prop}(I:Inv X pins σ H s)
    (h:ta σ H λ x H1=>tb σ H1 λ y H2=>R x y H2) {Q:Value->Shared->Prop} {f:Value->Value->Sem Value}
    (hf:∀ v u s2 x y H2,Inv X pins σ H2 s2->RelV x v->RelV y u->R x y H2->wpAny (model X.prog X.w) X.A (f v u) Q X.xe s2) :
    wpAny (model X.prog X.w) X.A (eval a X.env) (λ v s₁=>wpAny (model X.prog X.w) X.A (eval b X.env) (λ u s₂=>wpAny (model X.prog X.w) X.A (f v u) Q X.xe s₂) X.xe s₁) X.xe s:=by
  refine thn (ha pins s σ H _ I h) λ v s1 ⟨x,H1,I1,r1,q1⟩=>?_
  refine thn (hb pins s1 σ H1 _ I1 q1) λ u s2 ⟨y,H2,I2,r2,q2⟩=>?_
  exact hf v u s2 x y H2 I2 r1 r2 q2
theorem SW{op:Operator}{r:R2}(ho:OpR X (binaryOp op) r)(ha:PE X a ta)(hb:PE X b tb):PE X (.BinOp a op b pos) (tOp r ta tb):=by
  intro pins s σ H Q I h
  exact wpAny_BinOp (SC ha hb I h λ v u s2 x y H2 I2 rx ry q=>ho pins s2 σ H2 x y v u Q I2 rx ry q)
theorem XQ{op:UnaryOp}{r:V->Hp->VK->Prop}(ho:UnR X (unaryOp op) r)(ha:PE X a ta):PE X (.UnaryOp op a pos) (tUn r ta):=by
  intro pins s σ H Q I h
  exact UnaryOp_ (thn (ha pins s σ H _ I h) λ v s1 ⟨x,H1,I1,r1,q1⟩=>ho pins s1 σ H1 x v Q I1 r1 q1)
theorem opI{f:Value->Value->Sem Value}{C:Int->Int->Prop}{g:Int->Int->Int}
    (rule:∀ (i j:Int) (t u:Tok) (s:Shared) (Q:Value->Shared->Prop) (E:Value->Shared->Prop),C i j->Q (.int (g i j) s.toks) { s with toks:=s.toks + 1 }->wpAny (model X.prog X.w) X.A (f (.int i t) (.int j u)) Q E s) :
    OpR X f (rI C λ i j=>.int (g i j)):=by
  intro pins s σ H x y v u Q I rx ry h
  obtain⟨i,j,rfl,rfl,hc,q⟩:=h
  obtain⟨t,rfl⟩:=rx
  obtain⟨t',rfl⟩:=ry
  exact rule i j t t' s _ _ hc ⟨.int (g i j),H,I.tok _,⟨_,rfl⟩,q⟩
theorem W4{f:Value->Value->Sem Value}{g:Int->Int->Int}
    (rule:∀ (i j:Int) (t u:Tok) (s:Shared) (Q:Value->Shared->Prop) (E:Value->Shared->Prop),Q (.int (g i j) s.toks) { s with toks:=s.toks + 1 }->wpAny (model X.prog X.w) X.A (f (.int i t) (.int j u)) Q E s) :
    OpR X f (rI0 λ i j=>.int (g i j)):=by
  intro pins s σ H x y v u Q I rx ry h
  obtain⟨i,j,rfl,rfl,q⟩:=h
  obtain⟨t,rfl⟩:=rx
  obtain⟨t',rfl⟩:=ry
  exact rule i j t t' s _ _ ⟨.int (g i j),H,I.tok _,⟨_,rfl⟩,q⟩
theorem Nv{f:Value->Value->Sem Value}{g:Int->Int->Bool}
    (rule:∀ (i j:Int) (t u:Tok) (s:Shared) (Q:Value->Shared->Prop) (E:Value->Shared->Prop),Q (.bool (g i j)) s->wpAny (model X.prog X.w) X.A (f (.int i t) (.int j u)) Q E s) :
    OpR X f (rI0 λ i j=>.bl (g i j)):=by
  intro pins s σ H x y v u Q I rx ry h
  obtain⟨i,j,rfl,rfl,q⟩:=h
  obtain⟨t,rfl⟩:=rx
  obtain⟨t',rfl⟩:=ry
  exact rule i j t t' s _ _ ⟨.bl (g i j),H,I,rfl,q⟩
noncomputable def X2(i j:Int):Prop:=0 < j/\j < 1073741824
noncomputable def X1(i j:Int):Prop:=0 <= j/\j <= 1000000/\i.natAbs < 2 ^ 64
noncomputable def CMul(i j:Int):Prop:=(-(2 ^ 64) < i/\i < 2 ^ 64) ∨ (-(2 ^ 64) < j/\j < 2 ^ 64)
theorem CMul.ok{i j:Int}(h:CMul i j):IntMulOk i j:=by
  rcases h with⟨h1,h2⟩|⟨h1,h2⟩
  . exact .of_left (intBits_le_64 h1 h2)
  . exact .of_right (intBits_le_64 h1 h2)
theorem BX:OpR X (binaryOp .Add) (rI0 λ i j=>.int (i + j)):=W4 λ _ _ _ _ _ _ _ q=>add_int q
theorem Ll:OpR X (binaryOp .Sub) (rI0 λ i j=>.int (i - j)):=W4 λ _ _ _ _ _ _ _ q=>sub_int q
theorem C3:OpR X (binaryOp .Mult) (rI CMul λ i j=>.int (i * j)):=opI λ _ _ _ _ _ _ _ hc q=>mul_int q hc.ok
theorem Jq:OpR X (binaryOp .FloorDiv) (rI X2 λ i j=>.int (i / j)):=opI λ i j _ _ _ _ _ hc q=>by
  have h1:(0:Int) < j:=hc.1
  have h2:j < 1073741824:=hc.2
  exact floordiv_int (by omega) (by rw[Int.fdiv_eq_ediv_of_nonneg i (by omega)];exact q) (.inl (PyProof.noPylong_small (by omega)))
theorem E7:OpR X (binaryOp .Mod) (rI (λ _ j=>0 < j) λ i j=>.int (i % j)):=opI λ i j _ _ _ _ _ hc q=>by
  have h1:(0:Int) < j:=hc
  exact mod_int' (by omega) (by rw[Int.fmod_eq_emod_of_nonneg i (by omega)];exact q)
theorem Vz:OpR X (binaryOp .Pow) (rI X1 λ i j=>.int (i ^ j.toNat)):=opI λ _ _ _ _ _ _ _ hc q=>pow_int_small hc.1 hc.2.1 hc.2.2 q
theorem unI{f:Value->Sem Value}{g:Int->Int}
    (rule:∀ (i:Int) (t:Tok) (s:Shared) (Q:Value->Shared->Prop) (E:Value->Shared->Prop),Q (.int (g i) s.toks) { s with toks:=s.toks + 1 }->wpAny (model X.prog X.w) X.A (f (.int i t)) Q E s) :
    UnR X f (rU λ i=>.int (g i)):=by
  intro pins s σ H x v Q I rx h
  obtain⟨i,rfl,q⟩:=h
  obtain⟨t,rfl⟩:=rx
  exact rule i t s _ _ ⟨.int (g i),H,I.tok _,⟨_,rfl⟩,q⟩
theorem Ur:UnR X (unaryOp .USub) (rU λ i=>.int (-i)):=unI λ _ _ _ _ _ q=>neg_int q
end
noncomputable def LL:V->V->Bool
  | .non,.non=>true | .non,.int _=>true | .int _,.non=>true | .non,.bl _=>true | .bl _,.non=>true | .non,.str _=>true | .str _,.non=>true
  | .int _,.int _=>true | .bl _,.bl _=>true | .str _,.str _=>true | .byt _,.byt _=>true
  | .int _,.str _=>true | .str _,.int _=>true | .bl _,.str _=>true | .str _,.bl _=>true
  | _,_=>false
noncomputable def rEq:R2:=λ x y H Q=>LL x y=true/\Q (.bl (decide (x=y))) H
noncomputable def rNe:R2:=λ x y H Q=>LL x y=true/\Q (.bl (!decide (x=y))) H
theorem NH{i j:Int}:decide (V.int i=V.int j)=(i == j):=by
  rw[Bool.eq_iff_iff]
  simp
theorem Pk{i j:Bool}:decide (V.bl i=V.bl j)=(i == j):=by
  rw[Bool.eq_iff_iff]
  simp
theorem NG{i j:Str}:decide (V.str i=V.str j)=(i == j):=by
  rw[Bool.eq_iff_iff]
  simp
theorem NI{i j:Array UInt8}:decide (V.byt i=V.byt j)=(i.toList == j.toList):=by
  rw[Bool.eq_iff_iff]
  cases i
  cases j
  simp
section
variable{X:Cx}{a b c:Expr}{ta tb tc:TE}{pos:Pos}
theorem Au{pins:List (Addr × Obj)}{σ:St}{H:Hp}{s:Shared}{Q:VK}{k k':Bool}(I:Inv X pins σ H s)(q:Q (.bl k) H)(e:k=k'):EP X pins σ Q (.bool k') s:=by
  subst e
  exact⟨.bl k,H,I,rfl,q⟩
theorem Fb:OpR X (compareOp .Eq) rEq:=by
  intro pins s σ H x y v u Q I rx ry h
  obtain⟨hs,q⟩:=h
  cases x with
  | non=>
    cases rx
    cases y with
    | non=>cases ry;exact PySem.EqNone.eq_none_none (Au I q (by simp))
    | bl j=>cases ry;exact PySem.EqNone.eq_none_bool (Au I q (by simp))
    | int j=>obtain⟨t',rfl⟩:=ry;exact PySem.EqNone.eq_none_int (Au I q (by simp))
    | str j=>obtain⟨t',rfl⟩:=ry;exact PySem.EqNone.eq_none_str (Au I q (by simp))
    | _=>exact absurd (show false=true from hs) Bool.false_ne_true
  | bl i=>
    cases rx
    cases y with
    | non=>cases ry;exact PySem.EqNone.eq_bool_none (Au I q (by simp))
    | bl j=>cases ry;exact eq_bool (Au I q Pk)
    | str j=>obtain⟨t',rfl⟩:=ry;exact PySem.EqMixed.eq_bool_str (Au I q (by simp))
    | _=>exact absurd (show false=true from hs) Bool.false_ne_true
  | int i=>
    obtain⟨t,rfl⟩:=rx
    cases y with
    | non=>cases ry;exact PySem.EqNone.eq_int_none (Au I q (by simp))
    | int j=>obtain⟨t',rfl⟩:=ry;exact eq_int (Au I q NH)
    | str j=>obtain⟨t',rfl⟩:=ry;exact PySem.EqMixed.eq_int_str (Au I q (by simp))
    | _=>exact absurd (show false=true from hs) Bool.false_ne_true
  | str i=>
    obtain⟨t,rfl⟩:=rx
    cases y with
    | non=>cases ry;exact PySem.EqNone.eq_str_none (Au I q (by simp))
    | bl j=>cases ry;exact PySem.EqMixed.eq_str_bool (Au I q (by simp))
    | int j=>obtain⟨t',rfl⟩:=ry;exact PySem.EqMixed.eq_str_int (Au I q (by simp))
    | str j=>obtain⟨t',rfl⟩:=ry;exact eq_str (Au I q NG)
    | _=>exact absurd (show false=true from hs) Bool.false_ne_true
  | byt i=>
    obtain⟨t,rfl⟩:=rx
    cases y with
    | byt j=>obtain⟨t',rfl⟩:=ry;exact PySem.W.eq_bytes (Au I q NI)
    | _=>exact absurd (show false=true from hs) Bool.false_ne_true
  | _=>cases y <;> exact absurd (show false=true from hs) Bool.false_ne_true
theorem JF:OpR X (compareOp .NotEq) rNe:=by
  intro pins s σ H x y v u Q I rx ry h
  obtain⟨hs,q⟩:=h
  cases x with
  | non=>
    cases rx
    cases y with
    | non=>cases ry;exact PySem.EqNone.ne_none_none (Au I q (by simp))
    | bl j=>cases ry;exact PySem.EqNone.ne_none_bool (Au I q (by simp))
    | int j=>obtain⟨t',rfl⟩:=ry;exact PySem.EqNone.ne_none_int (Au I q (by simp))
    | str j=>obtain⟨t',rfl⟩:=ry;exact PySem.EqNone.ne_none_str (Au I q (by simp))
    | _=>exact absurd (show false=true from hs) Bool.false_ne_true
  | bl i=>
    cases rx
    cases y with
    | non=>cases ry;exact PySem.EqNone.ne_bool_none (Au I q (by simp))
    | bl j=>cases ry;exact ne_bool (Au I q (congrArg not Pk))
    | str j=>obtain⟨t',rfl⟩:=ry;exact PySem.EqMixed.ne_bool_str (Au I q (by simp))
    | _=>exact absurd (show false=true from hs) Bool.false_ne_true
  | int i=>
    obtain⟨t,rfl⟩:=rx
    cases y with
    | non=>cases ry;exact PySem.EqNone.ne_int_none (Au I q (by simp))
    | int j=>obtain⟨t',rfl⟩:=ry;exact ne_int (Au I q (congrArg not NH))
    | str j=>obtain⟨t',rfl⟩:=ry;exact PySem.EqMixed.ne_int_str (Au I q (by simp))
    | _=>exact absurd (show false=true from hs) Bool.false_ne_true
  | str i=>
    obtain⟨t,rfl⟩:=rx
    cases y with
    | non=>cases ry;exact PySem.EqNone.ne_str_none (Au I q (by simp))
    | bl j=>cases ry;exact PySem.EqMixed.ne_str_bool (Au I q (by simp))
    | int j=>obtain⟨t',rfl⟩:=ry;exact PySem.EqMixed.ne_str_int (Au I q (by simp))
    | str j=>obtain⟨t',rfl⟩:=ry;exact ne_str (Au I q (congrArg not NG))
    | _=>exact absurd (show false=true from hs) Bool.false_ne_true
  | byt i=>
    obtain⟨t,rfl⟩:=rx
    cases y with
    | byt j=>obtain⟨t',rfl⟩:=ry;exact PySem.W.ne_bytes (Au I q (congrArg not NI))
    | _=>exact absurd (show false=true from hs) Bool.false_ne_true
  | _=>cases y <;> exact absurd (show false=true from hs) Bool.false_ne_true
theorem Hu:OpR X (compareOp .Lt) (rI0 λ i j=>.bl (decide (i < j))):=Nv λ _ _ _ _ _ _ _ q=>lt_int q
theorem XV:OpR X (compareOp .LtE) (rI0 λ i j=>.bl (decide (i <= j))):=Nv λ _ _ _ _ _ _ _ q=>le_int q
theorem Nu:OpR X (compareOp .Gt) (rI0 λ i j=>.bl (decide (j < i))):=Nv λ _ _ _ _ _ _ _ q=>gt_int q
theorem XW:OpR X (compareOp .GtE) (rI0 λ i j=>.bl (decide (j <= i))):=Nv λ _ _ _ _ _ _ _ q=>ge_int q
theorem OpR.or{f:Value->Value->Sem Value}{r r':R2}(h:OpR X f r)(h':OpR X f r'):OpR X f (λ x y H Q=>r x y H Q ∨ r' x y H Q):=by
  intro pins s σ H x y v u Q I rx ry q
  rcases q with q|q
  . exact h pins s σ H x y v u Q I rx ry q
  . exact h' pins s σ H x y v u Q I rx ry q
theorem Lp(b:Expr){op:CmpOp}(h:op ≠ .In:=by decide)(h2:op ≠ .NotIn:=by decide):behindInMarks op b=false:=by
  have e1:(op == CmpOp.In)=false:=by cases op <;> first|rfl|exact absurd rfl h
  have e2:(op == CmpOp.NotIn)=false:=by cases op <;> first|rfl|exact absurd rfl h2
  cases b <;> simp[behindInMarks,e1,e2]
theorem U9{op:CmpOp}{r:R2}(ho:OpR X (compareOp op) r)(ha:PE X a ta)(hb:PE X b tb)(hm:behindInMarks op b=false):PE X (.Compare a [op] [b] pos) (tOp r ta tb):=by
  intro pins s σ H Q I h
  exact wpAny_Compare1 (SC ha hb I h λ v u s2 x y H2 I2 rx ry q=>ho pins s2 σ H2 x y v u Q I2 rx ry q) hm
noncomputable def Kd(t:TE):TT:=λ σ H Q=>t σ H λ x H'=>∃ k,x=.bl k/\Q k H'
theorem N1{op:CmpOp}{r:R2}(ho:OpR X (compareOp op) r)(ha:PE X a ta)(hb:PE X b tb)(hm:behindInMarks op b=false):PT X (.Compare a [op] [b] pos) (Kd (tOp r ta tb)):=by
  intro pins s σ H Q I h
  refine wpAny_isTrue_Compare1 (thn (ha pins s σ H _ I h) λ v s1 ⟨x,H1,I1,r1,q1⟩=>thn (hb pins s1 σ H1 _ I1 q1) λ u s2 ⟨y,H2,I2,r2,q2⟩=>
    thn (ho pins s2 σ H2 x y v u _ I2 r1 r2 q2) λ c s3 ⟨z,H3,I3,r3,k,e,q3⟩=>?_) hm
  subst e
  cases r3
  exact wpAny_truthy_bool ⟨H3,I3,q3⟩
noncomputable def MY(K:PySem.W.Frag)(x:V)(H:Hp)(k:Bool):Prop:=
  match x with
  | .non=>k=false
  | .bl b=>k=b
  | .int i=>k=(i != 0)
  | .str y=>y.length <= sizeLine/\k=((y.length:Int) != 0)
  | .byt y=>y.size <= sizeLine/\k=((y.size:Int) != 0)
  | .ref p=>(∃ xs,SqL K H p xs/\k=!xs.isEmpty) ∨ (∃ xs,SqT K H p xs/\k=!xs.isEmpty) ∨ ∃ kvs,H p=some (.dK kvs)/\k=!kvs.isEmpty
  | _=>False
theorem Nz{κ:Type}{kvs:List (κ × V)}{vs:List (κ × Value)}(r:KV kvs vs):(!vs.isEmpty)=!kvs.isEmpty:=by
  cases r <;> rfl
theorem JR{xs:List V}{its:List Value}(r:Vals xs its):(!its.toArray.isEmpty)=!xs.isEmpty:=by
  cases r <;> simp
theorem Fz:(sizeLine:Nat) < 2 ^ 63:=by rw[sizeLine_eq];decide
theorem Ut:YM X (λ x H Q=>∃ k,MY X.K x H k/\Q k H):=by
  intro pins s σ H x v Q I rx h
  obtain⟨k,e,q⟩:=h
  have hl:=Fz
  have hs:sizeLine=16777216:=sizeLine_eq
  cases x with
  | non=>
    cases rx
    have e':k=false:=e
    subst e'
    exact truthy_none ⟨H,I,q⟩
  | bl b=>
    cases rx
    have e':k=b:=e
    subst e'
    exact wpAny_truthy_bool ⟨H,I,q⟩
  | int i=>
    obtain⟨t,rfl⟩:=rx
    have e':k=(i != 0):=e
    subst e'
    exact PySem.P.truthy_int ⟨H,I,q⟩
  | str y=>
    obtain⟨t,rfl⟩:=rx
    obtain⟨hy,e'⟩:y.length <= sizeLine/\k=((y.length:Int) != 0):=e
    subst e'
    exact PySem.P.truthy_str (by omega) ⟨H,I.tok _,q⟩
  | byt y=>
    obtain⟨t,rfl⟩:=rx
    obtain⟨hy,e'⟩:y.size <= sizeLine/\k=((y.size:Int) != 0):=e
    subst e'
    exact PySem.W.truthy_bytes (by omega) ⟨H,I.tok _,q⟩
  | ref p=>
    cases rx
    have e':(∃ xs,SqL X.K H p xs/\k=!xs.isEmpty) ∨ (∃ xs,SqT X.K H p xs/\k=!xs.isEmpty) ∨ ∃ kvs,H p=some (.dK kvs)/\k=!kvs.isEmpty:=e
    rcases e' with⟨xs,hx,e'⟩|⟨xs,hx,e'⟩|⟨kvs,hx,e'⟩
    . subst e'
      obtain⟨its,r,pl,hz⟩:=I.list hx
      have hlen:=r.length
      exact wpAny_truthy_list pl.isList (by simp only[List.size_toArray];omega) ⟨H,I.tok _,by rw[JR r];exact q⟩
    . subst e'
      obtain⟨its,r,pl,hz⟩:=I.tuple hx
      have hlen:=r.length
      exact truthy_tuple pl (by simp only[List.size_toArray];omega) ⟨H,I.tok _,by rw[JR r];exact q⟩
    . subst e'
      obtain⟨hz,hS,vs,r,m⟩:kvs.length <= sizeLine/\(p == sysModules)=false/\∃ vs,KV kvs vs/\s.heap.DictOf (Jr X.prog X.w) p vs:=I.hok p _ hx
      have hlen:kvs.length=vs.length:=Paired.length r
      exact wpAny_truthy_dict hS m (by omega) ⟨H,I.tok _,by rw[Nz r];exact q⟩
  | _=>exact(show False from e).elim
theorem RX(ha:PE X a ta)(he:∀ whole,isTrue a X.env whole=(do let v <- whole;standAt a.pos;holding [v] (truthy v))) :
    PT X a (λ σ H Q=>ta σ H λ x H'=>∃ k,MY X.K x H' k/\Q k H'):=by
  intro pins s σ H Q I h
  exact isTrue_plain (thn (ha pins s σ H _ I h) λ v s1 ⟨x,H1,I1,r1,q1⟩=>Ut pins s1 σ H1 x v Q I1 r1 q1) (he _)
theorem Cc{x:V}{us:List Value}(r:Vals [x] us):∃ u,us=[u]/\RelV x u:=by
  cases r with
  | cons r1 r2=>cases r2;exact⟨_,rfl,r1⟩
theorem Iq{x y:V}{us:List Value}(r:Vals [x,y] us):∃ u w',us=[u,w']/\RelV x u/\RelV y w':=by
  cases r with
  | cons r1 r2=>
    cases r2 with
    | cons r3 r4=>cases r4;exact⟨_,_,rfl,r1,r3⟩
theorem SB:CallR X (.builtin "abs") (λ xs H Q=>∃ i,xs=[.int i]/\Q (.int (if i < 0 then -i else i)) H):=by
  intro pins s σ H xs us Q I r h
  obtain⟨i,rfl,q⟩:=h
  obtain⟨u,rfl,t,rfl⟩:=Cc r
  exact call_abs_int λ u tk=>⟨.int (if i < 0 then -i else i),H,I.tok _,⟨_,rfl⟩,q⟩
theorem Pv(hc:X.calm=true):CallR X (.builtin "max") (λ xs H Q=>∃ i j,xs=[.int i,.int j]/\Q (.int (if j > i then j else i)) H):=by
  intro pins s σ H xs us Q I r h
  obtain⟨i,j,rfl,q⟩:=h
  obtain⟨u,w',rfl,⟨t,rfl⟩,⟨t',rfl⟩⟩:=Iq r
  refine max_two_ints (I.ok.hd hc) λ h' tk k=>⟨_,H,I.kept k,?_,q⟩
  by_cases hj:j > i
  . rw[if_pos hj,if_pos hj];exact⟨_,rfl⟩
  . rw[if_neg hj,if_neg hj];exact⟨_,rfl⟩
theorem Pt(hc:X.calm=true):CallR X (.builtin "min") (λ xs H Q=>∃ i j,xs=[.int i,.int j]/\Q (.int (if j < i then j else i)) H):=by
  intro pins s σ H xs us Q I r h
  obtain⟨i,j,rfl,q⟩:=h
  obtain⟨u,w',rfl,⟨t,rfl⟩,⟨t',rfl⟩⟩:=Iq r
  refine min_two_ints (I.ok.hd hc) λ h' tk k=>⟨_,H,I.kept k,?_,q⟩
  by_cases hj:j < i
  . rw[if_pos hj,if_pos hj];exact⟨_,rfl⟩
  . rw[if_neg hj,if_neg hj];exact⟨_,rfl⟩
end
end L2
namespace L2
open PySem PySem.Spec PyProof.Rows
section
variable{prog:Program}{w:World}{A:Around}{E:Value->Shared->Prop}{s:Shared}{K:PySem.W.Frag}{x dx C f:Addr}{mA:Str->Option Value}{name:Str}{v:Value}
end
section
variable{P:Program}{w:World}{H H':Hp}{h h':Heap}{a C dx:Addr}{fs fs':List (Str × V)}
end
section
variable{X:Cx}{pins:List (Addr × Obj)}{σ:St}{H:Hp}{s:Shared}{a C dx:Addr}{fs:List (Str × V)}{f:Str}{v:V}{A:Around}{E:Value->Shared->Prop}
end
section
variable{X:Cx}{o e value:Expr}{f:Str}{pos pos' tpos:Pos}{ta tv:TE}
end
section
variable{X:Cx}{pins:List (Addr × Obj)}{σ:St}{H:Hp}{s:Shared}{A:Around}{E:Value->Shared->Prop}{Q:Value->Shared->Prop}{c:Value}{b:Bool}
end
end L2
namespace L2
open PySem PySem.Spec PyProof.Rows
structure Room(k:Nat)(A:Around):Prop where
  hd:A.handled=none
  dp:A.depth + 3 * k + 5 < recursionLimit
  un:A.units + 16 * k + 200 < cLine
  gd:A.guards=some []
theorem Room.mono{j k:Nat}{A:Around}(r:Room k A)(h:j <= k):Room j A:=⟨r.hd,by have:=r.dp;omega,by have:=r.un;omega,r.gd⟩
theorem Room.deeper{k:Nat}{A:Around}(r:Room (k + 1) A)(env:Env):Room k (A.deeper env):=
  ⟨r.hd,by have:=r.dp;show A.depth + 1 + 3 * k + 5 < _;omega,by have:=r.un;show A.units + 3 + 16 * k + 200 < _;omega,by first|exact r.gd|(simpa [Around.deeper,Around.under,Code.guards,Code.isGuard,pushGuards]using r.gd)⟩
theorem Room.depth{k:Nat}{A:Around}(r:Room k A):A.depth < recursionLimit:=by have:=r.dp;omega
theorem Room.units{k:Nat}{A:Around}(r:Room k A):A.units + 64 < cLine:=by have:=r.un;omega
noncomputable def Ck:TA:=λ _ H Q=>Q [] H
noncomputable def Bp(ta:TE)(tr:TA):TA:=λ σ H Q=>ta σ H λ x H1=>tr σ H1 λ xs H2=>Q (x :: xs) H2
section
variable{X:Cx}{e:Expr}{es:List Expr}{te:TE}{t:TA}{pos:Pos}
theorem Di:PA X [] Ck:=λ _ _ _ _ H Q I h=>Calls.spliced_nil ⟨[],H,I,.nil,h⟩
theorem Cf(ha:PE X e te)(hr:PA X es t)(hs:starEach (e :: es) X.env=(false,eval e X.env) :: starEach es X.env:=by rfl):PA X (e :: es) (Bp te t):=by
  intro pos pins s σ H Q I h
  rw[hs]
  show wpAny _ _ (spliced ((false,eval e X.env) :: backTo pos (starEach es X.env))) _ _ s
  refine Calls.spliced_cons (thn (ha pins s σ H _ I h) λ u s1 ⟨x,H1,I1,r1,q1⟩=>?_)
  exact thn (hr pos pins s1 σ H1 _ I1 q1) λ us s2 ⟨xs,H2,I2,r2,q2⟩=>⟨x :: xs,H2,I2,.cons r1 r2,q2⟩
noncomputable def QM(t:TA):TE:=λ σ H Q=>t σ H λ xs H1=>xs.length <= sizeLine/\∀ p,H1 p=none->Q (.ref p) (upd H1 p (.tup xs))
noncomputable def QX(t:TA):TE:=λ σ H Q=>t σ H λ xs H1=>xs.length <= sizeLine/\∀ p,H1 p=none->Q (.ref p) (upd H1 p (.lst xs))
theorem Vs{x1}(h:PA X es t):PE X (.Tuple es x1 pos) (QM t):=by
  intro pins s σ H Q I hq
  refine wpAny_Tuple_spliced (thn (h pos pins s σ H _ I hq) λ us s1 ⟨xs,H1,I1,r,z,q⟩=>⟨by rw[<- r.length];exact z,?_⟩)
  have hf:H1 s1.heap.objs.size=none:=I1.hok.fresh (Nat.le_refl _)
  refine⟨.ref s1.heap.objs.size,upd H1 s1.heap.objs.size (.tup xs),I1.laid (t':=s1.toks) (λ b u e=>Heap.get?_push_of_some _ e) (Nat.le_refl _) ?_,rfl,q _ hf⟩
  exact⟨z,us,r,⟨_,Heap.get?_push_size _ rfl,rfl,⟨_,rfl⟩,rfl⟩⟩
theorem Vv(h:PA X es t):PE X (.List es pos) (QX t):=by
  intro pins s σ H Q I hq
  refine wpAny_List_spliced (thn (h pos pins s σ H _ I hq) λ us s1 ⟨xs,H1,I1,r,z,q⟩=>⟨by rw[<- r.length];exact z,?_⟩)
  have hf:H1 s1.heap.objs.size=none:=I1.hok.fresh (Nat.le_refl _)
  refine⟨.ref s1.heap.objs.size,upd H1 s1.heap.objs.size (.lst xs),I1.laid (t':=s1.toks) (λ b u e=>Heap.get?_push_of_some _ e) (Nat.le_refl _) ?_,rfl,q _ hf⟩
  exact⟨z,us,0,r,Heap.get?_push_size _ rfl⟩
end
noncomputable abbrev Sp:=List V->Hp->VK->XK->Prop
noncomputable abbrev CXT:=List Env->Hp->Shared->XK->Value->Shared->Prop
structure Env0(P:Program)(w:World)(K:PySem.W.Frag)(mg:Str->Option Value)(base:Heap)(A:Around)(outer:List Env)(s:Shared)(H:Hp):Prop where
  frames:A.frames=some outer
  mod:Mod K mg base
  bs:∀ b o,base.get? b=some o->s.heap.get? b=some o/\H b=none
  bsz:base.objs.size <= s.heap.objs.size
  funs:s.heap.FunFrames base outer
  frf:∀ b ∈ frs outer,H b=none
  hok:HOk P w H s.heap
  bare:AllBare s.gens
noncomputable def CE(outer:List Env)(P:Program)(w:World)(H:Hp)(s:Shared)(Q:VK)(u:Value)(s':Shared):Prop:=
  ∃ v H',s'.os=s.os/\AllBare s'.gens/\Un (frs outer) [] H H' s.heap s'.heap/\HOk P w H' s'.heap/\RelV v u/\Q v H'
noncomputable def CR(CX:CXT)(outer:List Env)(P:Program)(w:World)(H:Hp)(s:Shared)(Q:VK)(E:XK)(r:Result)(s':Shared):Prop:=
  match r with
  | .ok (.ret u)=>CE outer P w H s Q u s'
  | .ok _=>False
  | .error e=>CX outer H s E e s'
structure FnOk(P:Program)(w:World)(K:PySem.W.Frag)(mg:Str->Option Value)(base:Heap)(CX:CXT)(k:Nat)(f:Addr)(fd:FuncData)(ps:List Str)(sp:Sp):Prop where
  len:∀ vs H Q E,sp vs H Q E->vs.length=ps.length
  run:∀ (A:Around) (outer:List Env) (s:Shared) (H:Hp) (args:Args) (us:List Value) (vs:List V) (Q:VK) (E:XK),Room k A->Env0 P w K mg base A outer s H->BindsTo s fd args (ps.zip us)->Vals vs us->sp vs H Q E ->
    codeAny (model P w) A (.call (.ref f) args) (CR CX outer P w H s Q E) s
theorem FnOk.mono{P:Program}{w:World}{K:PySem.W.Frag}{mg:Str->Option Value}{base:Heap}{CX:CXT}{j k:Nat}{f:Addr}{fd:FuncData}{ps:List Str}{sp:Sp}(F:FnOk P w K mg base CX j f fd ps sp)(h:j <= k) :
    FnOk P w K mg base CX k f fd ps sp:=⟨F.len,λ A outer s H args us vs Q E hr=>F.run A outer s H args us vs Q E (hr.mono h)⟩
section
variable{X:Cx}{pins:List (Addr × Obj)}{σ:St}{H:Hp}{s s':Shared}
theorem Inv.env0(I:Inv X pins σ H s):Env0 X.prog X.w X.K X.mg X.base X.A X.stack s H:=
  ⟨I.ok.frames,I.ok.mod,I.bs,Nat.le_trans I.ok.bsz I.sz,I.stack,I.stkFree,I.hok,I.bare⟩
theorem Inv.after{Q:VK}{u:Value}(I:Inv X pins σ H s)(h:CE X.stack X.prog X.w H s Q u s'):EP X pins σ Q u s':=by
  obtain⟨v,H',os,bare,un,hok,r,q⟩:=h
  obtain⟨hh,g,d,t,os'⟩:=s'
  obtain rfl:os'=s.os:=os
  exact⟨v,H',I.call (h':=hh) (g':=g) (d':=d) (t':=t) (ch:=[]) un hok bare (λ b z=>absurd z (by simp)),r,q⟩
end
noncomputable def FY(sp:Sp)(dvs:List V)(E:XK)(t:TA):TE:=λ σ H Q=>t σ H λ vs H1=>sp (vs ++ dvs) H1 Q E
noncomputable def Binds(K:PySem.W.Frag)(fd:FuncData)(ps:List Str)(ds:List Value):Prop:=
  ∀ (s:Shared) (us:List Value),K.In s.heap->(us ++ ds).length=ps.length->BindsTo s fd ⟨us,[]⟩ (ps.zip (us ++ ds))
theorem Binds.all{K:PySem.W.Frag}{fd:FuncData}{ps:List Str}(h:∀ us:List Value,us.length=ps.length->bindArgs fd ⟨us,[]⟩=pure (ps.zip us)):Binds K fd ps []:=λ s us _ hl=>by
  rw[List.append_nil]at hl ⊢
  exact .of_eq (h us hl)
noncomputable def Ma(CX:CXT)(X:Cx)(E:XK):Prop:=∀ (pins:List (Addr × Obj)) (σ:St) (H:Hp) (s:Shared) (e:Value) (s':Shared),Inv X pins σ H s->CX X.stack H s E e s'->X.xe e s'
section
variable{X:Cx}{CX:CXT}{k:Nat}{f C:Addr}{fd:FuncData}{ps:List Str}{sp:Sp}{dvs:List V}{ds:List Value}{E:XK}{x m:Str}{p pos apos:Pos}{e o:Expr}{es:List Expr}{ta:TE}{t:TA}
theorem V1{pins:List (Addr × Obj)}{σ:St}{H:Hp}{s:Shared}{Q:VK}{us:List Value}{vs:List V}(F:FnOk X.prog X.w X.K X.mg X.base CX k f fd ps sp)(hr:Room k X.A)(hb:Binds X.K fd ps ds)(hd:Vals dvs ds)(hx:Ma CX X E)
    (I:Inv X pins σ H s) (r:Vals vs us) (h:sp (vs ++ dvs) H Q E):wpAny (model X.prog X.w) X.A (call (.ref f) us) (EP X pins σ Q) X.xe s:=by
  have r2:Vals (vs ++ dvs) (us ++ ds):=r.append hd
  have hl:(us ++ ds).length=ps.length:=by rw[<- r2.length];exact F.len _ _ _ _ h
  refine wpAny_call (codeAny_mono (F.run X.A X.stack s H ⟨us,[]⟩ (us ++ ds) (vs ++ dvs) Q E hr I.env0 (hb s us I.kIn hl) r2 h) λ r s' hq=>?_)
  cases r with
  | error e=>exact hx pins σ H s e s' I hq
  | ok fl=>
    cases fl with
    | ret u=>exact I.after hq
    | next=>exact False.elim hq
    | brk=>exact False.elim hq
    | cont=>exact False.elim hq
theorem UA(F:FnOk X.prog X.w X.K X.mg X.base CX k f fd ps sp)(hr:Room k X.A)(hg:Gl X x)(hm:X.mg x=some (.ref f))(hk:PySem.W.keepIn X.K (.ref f)=true)(hb:Binds X.K fd ps ds)(hd:Vals dvs ds)(hx:Ma CX X E)
    (ha:PA X (e :: es) t) (hdb:(x == ("__debug__":Str))=false:=by decide) (he:starEach (e :: es) X.env=(false,eval e X.env) :: starEach es X.env:=by rfl) (hpl:(backTo pos (starEach es X.env)).any (·.1)=false:=by rfl) :
    PE X (.Call (.Name x p) (e :: es) [] pos) (FY sp dvs E t):=by
  intro pins s σ H Q I h
  refine wpAny_Call_Name_kw (UO I hg hm ?_ hdb)
  refine PySem.W.callWith_K (h₀:=X.base) I.ok.mod.kin hk (thn (ha pos pins s σ H _ I h) λ us s1 ⟨vs,H1,I1,r,q⟩=>⟨I1.kIn,?_⟩) he hpl
  exact V1 F hr hb hd hx I1 r q
end
section
variable{X:Cx}{CX:CXT}{k:Nat}{f C:Addr}{fd:FuncData}{ps ks:List Str}{sp:Sp}{E:XK}{x m:Str}{p pos apos kpos:Pos}{e o:Expr}{es:List Expr}{kws:List Keyword}{te ta:TE}{t tk:TA}{nm:Option Str}
variable{g:List Value->List Value->List Value}{gV:List V->List V->List V}
end
structure FnScope(N P:List Str)(sc:Scope):Prop where
  kind:sc.kind=.function
  co:sc.isCoroutine=false
  gen:sc.isGenerator=false
  nd:N.Nodup
  pre:N.take P.length=P
  par:∀ x ∈ P,sc.names.lookup x=some .local ∨ sc.names.lookup x=some .cell
  nofree:∀ y ∈ sc.names,y.2 ≠ .free
theorem KP{kindOf:Str->Option NameKind}{x:Str}:∀ {binds:List (Str × Value)} {m:Str->Option Value},(∀ v,(x,v) ∉ binds)->bindL kindOf binds m x=m x
  | [],_,_=>rfl
  | (n,v) :: r,m,h=>by
    unfold bindL
    rw[KP λ w hw=>h w (List.mem_cons_of_mem _ hw)]
    split
    . have:x ≠ n:=by rintro rfl;exact h v List.mem_cons_self
      simp[this]
    . rfl
theorem KR{kindOf:Str->Option NameKind}{x:Str}:∀ {binds:List (Str × Value)} {m:Str->Option Value},(∀ v,(x,v) ∉ binds)->bindC kindOf binds m x=m x
  | [],_,_=>rfl
  | (n,v) :: r,m,h=>by
    unfold bindC
    rw[KR λ w hw=>h w (List.mem_cons_of_mem _ hw)]
    split
    . rfl
    . have:x ≠ n:=by rintro rfl;exact h v List.mem_cons_self
      simp[this]
theorem KQ{kindOf:Str->Option NameKind}{x:Str}{v:Value}:∀ {P:List Str} {vs:List Value} {i:Nat} {m:Str->Option Value},P.Nodup->P[i]? = some x->vs[i]? = some v->kindOf x=some .local ->
    bindL kindOf (P.zip vs) m x=some v
  | [],_,_,_,_,h,_,_=>by simp at h
  | _ :: _,[],_,_,_,_,h,_=>by simp at h
  | p :: P,w :: vs,0,m,nd,h1,h2,hk=>by
    simp at h1 h2;subst h1;subst h2
    show bindL kindOf ((p,w) :: P.zip vs) m p=_
    unfold bindL
    rw[KP λ v hv=>(List.nodup_cons.mp nd).1 (List.of_mem_zip hv).1,if_pos hk]
    simp
  | p :: P,w :: vs,i + 1,m,nd,h1,h2,hk=>by
    show bindL kindOf ((p,w) :: P.zip vs) m x=_
    unfold bindL
    exact KQ (i:=i) (List.nodup_cons.mp nd).2 (by simpa using h1) (by simpa using h2) hk
theorem KS{kindOf:Str->Option NameKind}{x:Str}{v:Value}:∀ {P:List Str} {vs:List Value} {i:Nat} {m:Str->Option Value},P.Nodup->P[i]? = some x->vs[i]? = some v->kindOf x ≠ some .local ->
    bindC kindOf (P.zip vs) m x=some v
  | [],_,_,_,_,h,_,_=>by simp at h
  | _ :: _,[],_,_,_,_,h,_=>by simp at h
  | p :: P,w :: vs,0,m,nd,h1,h2,hk=>by
    simp at h1 h2;subst h1;subst h2
    show bindC kindOf ((p,w) :: P.zip vs) m p=_
    unfold bindC
    rw[KR λ v hv=>(List.nodup_cons.mp nd).1 (List.of_mem_zip hv).1,if_neg hk]
    simp
  | p :: P,w :: vs,i + 1,m,nd,h1,h2,hk=>by
    show bindC kindOf ((p,w) :: P.zip vs) m x=_
    unfold bindC
    exact KS (i:=i) (List.nodup_cons.mp nd).2 (by simpa using h1) (by simpa using h2) hk
noncomputable def Dr(N:List Str)(vs:List V):St:=vs.map some ++ List.replicate (N.length - vs.length) none
noncomputable def Ih(CX:CXT)(P:Program)(w:World)(K:PySem.W.Frag)(mg:Str->Option Value)(base:Heap)(N:List Str)(qual:Str)(scope:Scope)(f:Addr)(cd:Value)(A:Around)(outer:List Env)(s:Shared)(H:Hp)(E:XK):Cx where
  prog:=P
  w:=w
  K:=K
  mg:=mg
  base:=base
  A:=A.deeper (envOfC qual scope s.heap.objs.size f cd)
  N:=N
  s₀:=s
  H₀:=H
  env:=envOfC qual scope s.heap.objs.size f cd
  outer:=outer
  stack:=envOfC qual scope s.heap.objs.size f cd :: outer
  ex:=[]
  calm:=true
  fn:=λ _=>true
  pn:=[]
  xe:=λ e s'=>wpAny (model P w) (A.deeper (envOfC qual scope s.heap.objs.size f cd)) (leaving (envOfC qual scope s.heap.objs.size f cd) e) (λ _ s''=>CX outer H s E e s'') (λ e' s''=>CX outer H s E e' s'') s'
theorem MK{sc:Scope}{n:Nat}{x:Str}(h:sc.names.lookup x=some .cell):∃ c,(cellsFrom n sc.names []).lookup x=some c:=by
  have q:=PySem.W.cellsFrom_some sc.names n [] (.inl h)
  exact Option.isSome_iff_exists.mp q
theorem PX{CX:CXT}{P:Program}{w:World}{K:PySem.W.Frag}{mg:Str->Option Value}{base:Heap}{N ps:List Str}{qual:Str}{scope:Scope}{f:Addr}{cd:Value}{A:Around}{outer:List Env}{s s1:Shared}{H:Hp}{E:XK}{us:List Value}{vs:List V}
    (S:FnScope N ps scope) (hd:A.handled=none) (e0:Env0 P w K mg base A outer s H) (hl:vs.length=ps.length) (r:Vals vs us)
    (x:InCallC s s.heap.objs.size (bindL (envOfC qual scope s.heap.objs.size f cd).kindOf (ps.zip us) λ _=>none) (cellsFrom (s.heap.objs.size + 1) scope.names []) (bindC (envOfC qual scope s.heap.objs.size f cd).kindOf (ps.zip us) λ _=>none) s1) :
    Inv (Ih CX P w K mg base N qual scope f cd A outer s H E) [] (Dr N vs) H s1:=by
  have hpl:ps.length <= N.length:=by have:=congrArg List.length S.pre;rw[List.length_take]at this;omega
  obtain⟨h1,tk,rfl,hk⟩:=x.done
  have noA:∀ b:Addr,b ∉ (Ih CX P w K mg base N qual scope f cd A outer s H E).ex:=λ b z=>absurd (show b ∈ ([]:List Addr)from z) (by simp)
  refine⟨⟨e0.mod,S.kind,rfl,rfl,Nat.le_refl _,λ y z c h1 h2=>?_,λ y hy=>?_,λ y c _ h=>?_,λ _=>hd,Around.frames_deeper e0.frames,.inr ⟨rfl,rfl⟩,λ b z=>absurd z (noA b),e0.bs,e0.bsz,λ b _ _=>noA b,λ b z=>absurd z (noA b),e0.funs,e0.frf⟩,
    rfl,e0.bare,Un.kept hk,⟨_,x.toInCall.ns,λ i y v h1 h2 h3=>?_⟩,λ y c h=>⟨_,x.cell y c h⟩,e0.hok.fresh (Nat.le_refl _),λ y c h=>?_,λ p hp=>absurd (show p ∈ ([]:List (Addr × Obj))from hp) (by simp),e0.hok.kept hk,?_⟩
  . exact name_of_addr x.apart (PySem.mem_of_lookup h1) (PySem.mem_of_lookup h2)
  . have hy:scope.names.lookup y=some .cell ∨ scope.names.lookup y=some .free:=hy
    rcases hy with hy|hy
    . exact MK hy
    . exact absurd rfl (S.nofree _ (PySem.mem_of_lookup hy))
  . exact Nat.le_of_lt (x.above y c (PySem.mem_of_lookup h))
  . have hi:i < vs.length:=by
      unfold Dr at h2
      by_cases hi:i < vs.length
      . exact hi
      . rw[List.getElem?_append_right (by simpa using hi)]at h2
        rw[List.getElem?_replicate]at h2
        split at h2 <;> cases h2
    have ha:vs[i]? = some v:=by
      unfold Dr at h2
      rw[List.getElem?_append_left (by simpa using hi),List.getElem?_map]at h2
      cases e:vs[i]? with
      | none=>rw[e]at h2;cases h2
      | some a=>rw[e]at h2;cases h2;rfl
    obtain⟨u,hu,rv⟩:=r.get ha
    have hp:ps[i]? = some y:=by
      rw[<- S.pre,List.getElem?_take_of_lt (by omega)];exact h1
    have ndP:ps.Nodup:=by rw[<- S.pre];exact S.nd.sublist (List.take_sublist _ _)
    refine⟨u,rv,?_⟩
    rcases S.par y (List.mem_of_getElem? hp)with k|k
    . exact .inl ⟨k,KQ ndP hp hu k⟩
    . obtain⟨c,e⟩:=MK (n:=s.heap.objs.size + 1) k
      refine .inr ⟨.inl k,c,e,?_⟩
      have q:=x.cell y c e
      rw[KS ndP hp hu (by show scope.names.lookup y ≠ _;rw[k];decide)]at q
      exact q
  . exact e0.hok.fresh (Nat.le_of_lt (x.above y c (PySem.mem_of_lookup h)))
  . unfold Dr
    show _=N.length
    rw[List.length_append,List.length_map,List.length_replicate]
    omega
theorem Xn{CX:CXT}{P:Program}{w:World}{K:PySem.W.Frag}{mg:Str->Option Value}{base:Heap}{k:Nat}{f:Addr}{name qual:Str}{params:Arguments}{body:List Stmt}{scope:Scope}{dV kV doc pm cdv ct oc:Value}{an od:Option Addr}
    {osl:Array (Option Value)} {N ps:List Str} {sp:Sp} (lk:K.lookup f=some ⟨oc,od,.func (PySem.W.fnOf name qual params body scope dV kV doc pm an cdv ct),osl⟩) (hcd:PySem.W.codeIn K cdv qual=true) (S:FnScope N ps scope)
    (len:∀ vs H Q E,sp vs H Q E->vs.length=ps.length)
    (hbody:∀ (A:Around) (outer:List Env) (s:Shared) (H:Hp) (vs:List V) (Q:VK) (E:XK),Room k (A.deeper (envOfC qual scope s.heap.objs.size f cdv))->sp vs H Q E ->
      ∃ t,PSs (Ih CX P w K mg base N qual scope f cdv A outer s H E) body t/\t { nx:=λ _ H'=>Q .non H',rt:=Q } (Dr N vs) H) :
    FnOk P w K mg base CX (k + 1) f (PySem.W.fnOf name qual params body scope dV kV doc pm an cdv ct) ps sp:=by
  refine⟨len,λ A outer s H args us vs Q E hr e0 hb r hsp=>?_⟩
  have hl:=len _ _ _ _ hsp
  have KX:K.In s.heap:=e0.mod.kin.keeps λ b o e=>(e0.bs b o e).1
  have lim:s.heap.NoLimit:=e0.mod.nolimit.keeps λ b o e=>(e0.bs b o e).1
  have hkind:∀ y ∈ ps.zip us,scope.names.lookup y.1=some .local ∨ (scope.names.lookup y.1=some .cell/\((cellsFrom (s.heap.objs.size + 1) scope.names []).lookup y.1).isSome=true):=λ⟨n,v⟩ hy=>by
    rcases S.par n (List.of_mem_zip hy).1 with q|q
    . exact .inl q
    . exact .inr ⟨q,PySem.W.cellsFrom_some _ _ _ (.inl q)⟩
  refine codeAny_call_function hr.depth (KX _ _ lk) rfl S.co S.gen rfl (PySem.W.codeRec_of KX hcd) (hb _ _ _ _ ?_)
  refine wpAny_newFunctionEnv_cells S.kind hkind λ env he s1 x=>?_
  subst he
  refine⟨lim.keeps x.toInCall.keep,codeAny_func ?_⟩
  obtain⟨t,ht,hq⟩:=hbody A outer s H vs Q E (hr.deeper _) hsp
  have I:Inv (Ih CX P w K mg base N qual scope f cdv A outer s H E) [] (Dr N vs) H s1:=PX S hr.hd e0 hl r x
  refine wpAny_mono (ht [] s1 (Dr N vs) H _ I hq) (λ fl s' hs=>?_) λ e s' hs=>hs
  have fin:∀ {σ':St} {H':Hp} {v:V} {u:Value},Inv (Ih CX P w K mg base N qual scope f cdv A outer s H E) [] σ' H' s'->RelV v u->Q v H'->CE outer P w H s Q u s':=
    λ {σ' H' v u} J rv q=>⟨v,H',J.os,J.bare,J.base,J.hok,rv,q⟩
  cases fl with
  | ret u=>
    obtain⟨v,σ',H',J,rv,q⟩:=hs
    exact fin J rv q
  | next=>
    obtain⟨σ',H',J,q⟩:=hs
    exact fin (v:=V.non) (u:=Value.none) J rfl q
  | brk=>
    obtain⟨_,_,_,q⟩:=hs
    exact False.elim q
  | cont=>
    obtain⟨_,_,_,q⟩:=hs
    exact False.elim q
end L2
namespace L2
open PySem PySem.Spec PyProof.Rows
section
variable{X:Cx}{x:Str}{p pos:Pos}{e:Expr}{es:List Expr}{t:TA}{id T:String}{r:List V->Hp->VK->Prop}
noncomputable def tCB(r:List V->Hp->VK->Prop)(t:TA):TE:=λ σ H Q=>t σ H λ vs H1=>r vs H1 Q
theorem FP(hc:CallR X (.builtin id) r)(hg:Gl X x)(hm:X.mg x=none)(hv:bootBuiltins x=some (.builtin id))(ha:PA X (e :: es) t)(hn:x ≠ "__name__":=by decide)(hdb:(x == ("__debug__":Str))=false:=by decide)
    (he:starEach (e :: es) X.env=(false,eval e X.env) :: starEach es X.env:=by rfl) (hpl:(backTo pos (starEach es X.env)).any (·.1)=false:=by rfl):PE X (.Call (.Name x p) (e :: es) [] pos) (tCB r t):=by
  intro pins s σ H Q I h
  refine wpAny_Call_Name_kw (G5 I hg hm hv ?_ hn hdb)
  exact PyProof.Rows.callWith_builtin1 (thn (ha pos pins s σ H _ I h) λ us s1 ⟨vs,H1,I1,r1,q1⟩=>hc pins s1 σ H1 vs us Q I1 r1 q1) he hpl
theorem EX(hc:CallR X (.type T) r)(hg:Gl X x)(hm:X.mg x=none)(hv:bootBuiltins x=some (.type T))(ha:PA X (e :: es) t)(hn:x ≠ "__name__":=by decide)(hdb:(x == ("__debug__":Str))=false:=by decide)
    (he:starEach (e :: es) X.env=(false,eval e X.env) :: starEach es X.env:=by rfl) (hpl:(backTo pos (starEach es X.env)).any (·.1)=false:=by rfl):PE X (.Call (.Name x p) (e :: es) [] pos) (tCB r t):=by
  intro pins s σ H Q I h
  refine wpAny_Call_Name_kw (G5 I hg hm hv ?_ hn hdb)
  exact PyProof.Rows.callWith_type1 (thn (ha pos pins s σ H _ I h) λ us s1 ⟨vs,H1,I1,r1,q1⟩=>hc pins s1 σ H1 vs us Q I1 r1 q1) he hpl
end
end L2
namespace HT
open PySem PyProof.Rows
section
open PySem.SeqAt
open PySem.AutoSeq1 (wpAny_loadPart')
open PySem.MeetsSeq PySem.MeetsSeq2 PySem.MeetsSeq3
end
section
variable{prog:Program}{w:World}{A:Around}{E:Value->Shared->Prop}{s:Shared}
theorem cat_tup{t b:Addr}{vs ws:List Value}{Q:Value->Shared->Prop}(ht:IsTup s.heap t vs.toArray)(hb:IsTup s.heap b ws.toArray)(hv:vs ≠ [])
    (h1:ws=[]->Q (.ref t) s) (h2:ws ≠ []->Q (.ref s.heap.objs.size) { s with heap:=s.heap.push { cls:=.type "tuple",data:=.seq (vs ++ ws).toArray } })
    (hsz:vs.length + ws.length <= sizeLine):wpAny (model prog w) A (binaryOp .Add (.ref t) (.ref b)) Q E s:=by
  obtain⟨⟨cls,dd,data,sl⟩,ho,hc,n,hd⟩:=id ht
  obtain⟨⟨cls2,dd2,data2,sl2⟩,ho2,hc2,n2,hd2⟩:=id hb
  simp only at hc hd hc2 hd2
  subst hc hd hc2 hd2
  have e:vs.toArray ++ ws.toArray=(vs ++ ws).toArray:=by simp
  by_cases hw:ws=[]
  . exact concat_meets ⟨_,ho,rfl⟩ ⟨_,ho2,rfl⟩ noFill_tuple_add seq_tuple_add PySem.F.slot_tuple_add PySem.F.entry_tuple_add (PySem.F.args_tuple_add_2 _ _)
      (tuple_addW1 t b vs.toArray ws.toArray n n2 dd dd2 sl sl2 (by simpa using hv) (by simp[hw])) ⟨ho,ho2,h1 hw⟩
  . refine concat_meets ⟨_,ho,rfl⟩ ⟨_,ho2,rfl⟩ noFill_tuple_add seq_tuple_add PySem.F.slot_tuple_add PySem.F.entry_tuple_add (PySem.F.args_tuple_add_2 _ _)
      (tuple_addW2 t b vs.toArray ws.toArray n n2 dd dd2 sl sl2 (by simpa using hv) (by simpa using hw) (by rw[List.size_toArray,List.size_toArray];exact hsz)) ⟨ho,ho2,?_⟩
    rw[e]
    exact h2 hw
noncomputable def sIx(n d:Nat):Option Int->Nat
  | none=>d
  | some v=>if v < 0 then(v + (n:Int)).toNat else min v.toNat n
theorem sIx_none(n d:Nat):sIx n d none=d:=rfl
theorem sIx_nat(n d k:Nat):sIx n d (some (k:Int))=min k n:=by
  show(if(k:Int) < 0 then((k:Int) + (n:Int)).toNat else min (k:Int).toNat n)=min k n
  rw[if_neg (by omega),Int.toNat_natCast]
end
end HT
namespace L2
open PySem PySem.Spec PyProof.Rows
noncomputable abbrev TO:=St->Hp->(Option Int->Hp->Prop)->Prop
noncomputable def PO(X:Cx)(e:Option Expr)(t:TO):Prop:=
  ∀ (pins:List (Addr × Obj)) (s:Shared) (σ:St) (H:Hp) (Q:Option Int->Hp->Prop),Inv X pins σ H s->t σ H Q ->
    wpAny (model X.prog X.w) X.A (evalPart e X.env) (λ u s'=>∃ o H',Inv X pins σ H' s'/\IsPart u o/\Q o H') X.xe s
noncomputable def Jh:TO:=λ _ H Q=>Q none H
noncomputable def NV(t:TE):TO:=λ σ H Q=>t σ H λ x H1=>∃ i,x=.int i/\Q (some i) H1
section
variable{X:Cx}{e:Expr}{te:TE}{lo hi:Option Expr}{tl th:TO}{pos p2:Pos}
theorem Tx:PO X none Jh:=by
  intro pins s σ H Q I h
  rw[evalPart_none]
  exact wpAny_pure ⟨none,H,I,.none,h⟩
theorem Tw(h:PE X e te):PO X (some e) (NV te):=by
  intro pins s σ H Q I hw
  rw[evalPart_some]
  refine thn (h pins s σ H _ I hw) λ u s1 ⟨x,H1,I1,r1,q1⟩=>?_
  obtain⟨i,rfl,q⟩:=q1
  obtain⟨t,rfl⟩:=r1
  exact⟨some i,H1,I1,.int i t,q⟩
noncomputable def SlR(X:Cx)(r:V->Option Int->Option Int->Hp->VK->Prop):Prop:=
  ∀ (pins:List (Addr × Obj)) (s:Shared) (σ:St) (H:Hp) (x:V) (v vl vu:Value) (lo hi:Option Int) (sl:Addr) (Q:VK),Inv X pins σ H s->RelV x v->s.heap.IsSliceOf sl vl vu .none->IsPart vl lo->IsPart vu hi->r x lo hi H Q ->
    ∃ T id,typeLookup (.type T) "__getitem__"=pure (some (.builtin id))/\s.TypeIs v T/\wpAny (model X.prog X.w) X.A (getItem v (.ref sl)) (EP X pins σ Q) X.xe s
noncomputable def tSl(r:V->Option Int->Option Int->Hp->VK->Prop)(te:TE)(tl th:TO):TE:=λ σ H Q=>te σ H λ x H1=>tl σ H1 λ l H2=>th σ H2 λ u H3=>r x l u H3 Q
theorem Rg{r:V->Option Int->Option Int->Hp->VK->Prop}(hr:SlR X r)(he:PE X e te)(hl:PO X lo tl)(hu:PO X hi th):PE X (.Subscript e (.Slice lo hi none p2) pos) (tSl r te tl th):=by
  intro pins s σ H Q I h
  refine Subscript_ (thn (he pins s σ H _ I h) λ v s1 ⟨x,H1,I1,r1,q1⟩=>?_)
  refine wpAny_Slice (thn (hl pins s1 σ H1 _ I1 q1) λ vl s2 ⟨l,H2,I2,pl,q2⟩=>thn (hu pins s2 σ H2 _ I2 q2) λ vu s3 ⟨u,H3,I3,pu,q3⟩=>?_)
  rw[evalPart_none]
  refine wpAny_pure ?_
  have I4:Inv X pins σ H3 { s3 with heap:=s3.heap.push { cls:=.type "slice",data:=.fields #[vl,vu,.none] } }:=I3.kept (t':=s3.toks) λ b ob q=>Heap.get?_push_of_some _ q
  obtain⟨T,id,hT,ht,hg⟩:=hr pins { s3 with heap:=s3.heap.push { cls:=.type "slice",data:=.fields #[vl,vu,.none] } } σ H3 x v vl vu l u s3.heap.objs.size Q I4 r1 (Heap.IsSliceOf.new ..) pl pu q3
  show wpAny (model X.prog X.w) X.A (subscriptTail e (.Slice lo hi none p2) v (.ref s3.heap.objs.size)) (EP X pins σ Q) X.xe { s3 with heap:=s3.heap.push { cls:=.type "slice",data:=.fields #[vl,vu,.none] } }
  exact tail_any (ops:=[.ref s3.heap.objs.size,v]) ht hT hg (by with_unfolding_all rfl)
noncomputable def Ii(xs:List V)(lo hi:Option Int):List V:=(xs.drop (HT.sIx xs.length 0 lo)).take (HT.sIx xs.length xs.length hi - HT.sIx xs.length 0 lo)
theorem Mf(xs:List V)(lo hi:Option Int):(Ii xs lo hi).length <= xs.length:=by
  unfold Ii
  rw[List.length_take,List.length_drop]
  omega
noncomputable def Nn(K:PySem.W.Frag):R2:=λ x y H Q=>∃ a b xs ys,x=.ref a/\y=.ref b/\SqT K H a xs/\SqT K H b ys/\xs ≠ []/\xs.length + ys.length <= sizeLine /\
  (ys=[]->Q (.ref a) H)/\(ys ≠ []->∀ p,H p=none->Q (.ref p) (upd H p (.tup (xs ++ ys))))
theorem Vals.nil_iff{xs:List V}{us:List Value}(r:Vals xs us):us=[] ↔ xs=[]:=by
  cases r with
  | nil=>simp
  | cons _ _=>simp
theorem UB:OpR X (binaryOp .Add) (Nn X.K):=by
  intro pins s σ H x y v u Q I rx ry h
  obtain⟨a,b,xs,ys,rfl,rfl,ha,hb,hx,hz,q1,q2⟩:=h
  cases rx
  cases ry
  obtain⟨its,r1,p1,_⟩:=I.tuple ha
  obtain⟨its2,r2,p2,_⟩:=I.tuple hb
  refine HT.cat_tup p1 p2 (λ z=>hx (r1.nil_iff.mp z)) (λ z=>⟨.ref a,H,I,rfl,q1 (r2.nil_iff.mp z)⟩) (λ z=>?_) (by rw[<- r1.length,<- r2.length];exact hz)
  refine⟨.ref s.heap.objs.size,_,I.laid (t':=s.toks) (o:=.tup (xs ++ ys)) (λ b ob q=>Heap.get?_push_of_some _ q) (Nat.le_refl _) ?_,rfl,q2 (λ w=>z (r2.nil_iff.mpr w)) _ (I.hok.fresh (Nat.le_refl _))⟩
  exact⟨by rw[List.length_append];exact hz,_,r1.append r2,IsTupD.new _ _⟩
end
end L2
namespace L2
open PySem PySem.Spec PyProof.Rows
noncomputable def ixN(n:Nat)(i:Int):Option Nat:=if 0 <= i then(if i < n then some i.toNat else none)else if -(n:Int) <= i then some (i + n).toNat else none
noncomputable def atI{α:Type}(xs:List α)(i:Int):Option α:=(ixN xs.length i).bind λ j=>xs[j]?
theorem Jx{n:Nat}{i:Int}{j:Nat}(h:ixN n i=some j):seqIndex? i n=some j/\j < n/\-(n:Int) <= i/\i < n:=by
  unfold ixN at h
  by_cases h0:0 <= i
  . rw[if_pos h0]at h
    by_cases h1:i < n
    . rw[if_pos h1]at h
      have e:i.toNat=j:=Option.some.inj h
      exact⟨by rw[seqIndex_of h0 h1,e],by omega,by omega,h1⟩
    . rw[if_neg h1]at h;cases h
  . rw[if_neg h0]at h
    by_cases h1:-(n:Int) <= i
    . rw[if_pos h1]at h
      have e:(i + n).toNat=j:=Option.some.inj h
      exact⟨by rw[seqIndex_neg (by omega) h1,e],by omega,h1,by omega⟩
    . rw[if_neg h1]at h;cases h
theorem NL{α:Type}{xs:List α}{i:Int}{v:α}(h:atI xs i=some v):∃ j,seqIndex? i xs.length=some j/\xs[j]? = some v/\j < xs.length/\-(xs.length:Int) <= i/\i < xs.length:=by
  unfold atI at h
  cases e:ixN xs.length i with
  | none=>rw[e]at h;cases h
  | some j=>
    rw[e]at h
    obtain⟨h1,h2,h3,h4⟩:=Jx e
    exact⟨j,h1,h,h2,h3,h4⟩
theorem Dx{α:Type}{xs:List α}{j:Nat}{v:α}(h:xs[j]? = some v):atI xs (j:Int)=some v:=by
  have hj:j < xs.length:=(List.getElem?_eq_some_iff.mp h).1
  have e:ixN xs.length (j:Int)=some j:=by
    unfold ixN
    rw[if_pos (by omega),if_pos (by omega)];simp
  unfold atI;rw[e];exact h
noncomputable def K7(b:Expr):Prop:=∀ o i,subscripted b false o i=operate [o,i] (getItem o i)
noncomputable def IxR(X:Cx)(r:R2):Prop:=
  ∀ (value slice:Expr) (pins:List (Addr × Obj)) (s:Shared) (σ:St) (H:Hp) (x y:V) (v u:Value) (Q:VK),Inv X pins σ H s->RelV x v->RelV y u->r x y H Q ->
    subscripted slice false v u=operate [v,u] (getItem v u)->wpAny (model X.prog X.w) X.A (subscriptTail value slice v u) (EP X pins σ Q) X.xe s
noncomputable def MtR(X:Cx)(id:String)(r:V->List V->Hp->VK->Prop):Prop:=
  ∀ (pins:List (Addr × Obj)) (s:Shared) (σ:St) (H:Hp) (x:V) (xs:List V) (v:Value) (us:List Value) (Q:VK),Inv X pins σ H s->RelV x v->Vals xs us->r x xs H Q ->
    wpAny (model X.prog X.w) X.A (call (.builtin id) (v :: us)) (EP X pins σ Q) X.xe s
section
variable{X:Cx}{a b:Expr}{ta tb:TE}{pos:Pos}
theorem IxR.or{r r':R2}(h:IxR X r)(h':IxR X r'):IxR X (λ x y H Q=>r x y H Q ∨ r' x y H Q):=by
  intro value slice pins s σ H x y v u Q I rx ry q hs
  rcases q with q|q
  . exact h value slice pins s σ H x y v u Q I rx ry q hs
  . exact h' value slice pins s σ H x y v u Q I rx ry q hs
theorem SX{r:R2}(hr:IxR X r)(ha:PE X a ta)(hb:PE X b tb)(hs:K7 b):PE X (.Subscript a b pos) (tOp r ta tb):=by
  intro pins s σ H Q I h
  exact Subscript_ (SC ha hb I h λ v u s2 x y H2 I2 rx ry q=>hr a b pins s2 σ H2 x y v u Q I2 rx ry q (hs _ _))
noncomputable def RJ(K:PySem.W.Frag):R2:=λ x y H Q=>∃ p xs i v,x=.ref p/\y=.int i/\SqL K H p xs/\atI xs i=some v/\Q v H
noncomputable def R9(K:PySem.W.Frag):R2:=λ x y H Q=>∃ p xs i v,x=.ref p/\y=.int i/\SqT K H p xs/\atI xs i=some v/\Q v H
theorem UP:IxR X (RJ X.K):=by
  intro value slice pins s σ H x y v u Q I rx ry h hs
  obtain⟨p,xs,i,z,rfl,rfl,hq,he,q⟩:=h
  cases rx
  obtain⟨t,rfl⟩:=ry
  obtain⟨its,r,pl,hz⟩:=I.list hq
  obtain⟨j,h1,h2,h3,h4,h5⟩:=NL he
  obtain⟨w,ew,rw'⟩:=r.get h2
  have hl:=r.length
  have hn:=Fz
  have fin:EP X pins σ Q w s:=⟨z,H,I,rw',q⟩
  by_cases h0:0 <= i
  . have hj:i.toNat=j:=by
      rw[seqIndex_of h0 h5]at h1
      exact Option.some.inj h1
    exact item_listR pl.isList h0 (by omega) (by rw[hj];simpa using ew) fin hs
  . have hj:(i + (its.toArray.size:Int)).toNat=j:=by
      rw[seqIndex_neg (by omega) h4]at h1
      rw[List.size_toArray,<- hl]
      exact Option.some.inj h1
    exact subscriptTail_builtinR (x:=w) pl.isList.typeIs slot_list_getitem.lookup
      (wpAny_getItem_list_neg (Q:=λ r s'=>r=w/\EP X pins σ Q r s') pl.isList (by omega) (by rw[List.size_toArray] <;> omega) (by omega) (by rw[hj];simpa using ew) ⟨rfl,fin⟩) hs
theorem WJ:IxR X (R9 X.K):=by
  intro value slice pins s σ H x y v u Q I rx ry h hs
  obtain⟨p,xs,i,z,rfl,rfl,hq,he,q⟩:=h
  cases rx
  obtain⟨t,rfl⟩:=ry
  obtain⟨its,r,pl,hz⟩:=I.tuple hq
  obtain⟨j,h1,h2,h3,h4,h5⟩:=NL he
  obtain⟨w,ew,rw'⟩:=r.get h2
  have hl:=r.length
  have hn:=Fz
  have fin:EP X pins σ Q w s:=⟨z,H,I,rw',q⟩
  exact subscriptTail_builtinR (x:=w) pl.typeIs slot_tuple_getitem.lookup
    (getItem_tuple (j:=j) (Q:=λ r s'=>r=w/\EP X pins σ Q r s') pl (by omega) (by omega) (by rw[List.size_toArray,<- hl];exact h1) (by simpa using ew) ⟨rfl,fin⟩) hs
theorem Nw(its:List Value)(n j:Nat)(u:Value):Obj.mapSeq (·.setIfInBounds j u) { cls:=.type "list",data:=.seq its.toArray n }={ cls:=.type "list",data:=.seq (its.set j u).toArray n }:=by
  simp[Obj.mapSeq]
theorem Inv.lst{pins:List (Addr × Obj)}{σ:St}{H:Hp}{s:Shared}{p:Addr}{xs:List V}(I:Inv X pins σ H s)(h:H p=some (.lst xs)) :
    ∃ (its:List Value) (n:Nat),Vals xs its/\s.heap.get? p=some { cls:=.type "list",data:=.seq its.toArray n }/\xs.length <= sizeLine:=by
  obtain⟨z,its,n,r,e⟩:=I.hok p _ h
  exact⟨its,n,r,e,z⟩
theorem Inv.lstUpd{pins:List (Addr × Obj)}{σ:St}{H:Hp}{s:Shared}{p:Addr}{xs ys:List V}{its its':List Value}{n n':Nat}{f:Obj->Obj}(I:Inv X pins σ H s)(h:H p=some (.lst xs))
    (ho:s.heap.get? p=some { cls:=.type "list",data:=.seq its.toArray n }) (hf:f { cls:=.type "list",data:=.seq its.toArray n }={ cls:=.type "list",data:=.seq its'.toArray n' }) (r:Vals ys its') (hz:ys.length <= sizeLine) (t:Nat) :
    Inv X pins σ (upd H p (.lst ys)) { s with heap:=s.heap.update p f,toks:=t }:=by
  have e:(s.heap.update p f).get? p=some { cls:=.type "list",data:=.seq its'.toArray n' }:=by
    rw[Heap.get?_update_self f ho (by rw[hf] <;> rfl),hf]
  refine I.write (x:=p) (e:=p) (by rw[h];trivial) (.inl rfl) (λ b u hb q=>(Heap.get?_update_other _ _ (Ne.symm hb)).trans q) ⟨_,e⟩ ?_
  exact⟨hz,its',n',r,e⟩
noncomputable def Nm:V->V->V->Hp->(Hp->Prop)->Prop:=λ o i v H Q=>∃ p xs k j,o=.ref p/\i=.int k/\H p=some (.lst xs)/\ixN xs.length k=some j/\Q (upd H p (.lst (xs.set j v)))
theorem Qf:Wy X Nm:=by
  intro pins s σ H o i v ov iv u Q I ro ri rv h
  obtain⟨p,xs,k,j,rfl,rfl,hp,hj,q⟩:=h
  cases ro
  obtain⟨t,rfl⟩:=ri
  obtain⟨its,n,r,ho,hz⟩:=I.lst hp
  obtain⟨h1,h2,h3,h4⟩:=Jx hj
  have hl:=r.length
  have hn:=Fz
  have I':Inv X pins σ (upd H p (.lst (xs.set j v))) { s with heap:=s.heap.update p (Obj.mapSeq (·.setIfInBounds j u)) }:=
    I.lstUpd hp ho (Nw its n j u) (r.set rv j) (by rw[List.length_set];exact hz) s.toks
  by_cases h0:0 <= k
  . have hk:k.toNat=j:=by
      rw[seqIndex_of h0 h4]at h1
      exact Option.some.inj h1
    exact PySem.W.ki_setAt ho h0 (by omega) (by rw[List.size_toArray,<- hl];exact h4) (by rw[hk];exact⟨_,I',q⟩)
  . have hk:(k + (its.toArray.size:Int)).toNat=j:=by
      rw[seqIndex_neg (by omega) h3]at h1
      rw[List.size_toArray,<- hl]
      exact Option.some.inj h1
    exact PySem.W.ki_setBack ho (by omega) (by rw[List.size_toArray,<- hl];exact h3) (by omega) (by rw[hk];exact⟨_,I',q⟩)
theorem LI(lo hi:Option Int)(n:Nat):(sliceBounds lo hi none n).1=((HT.sIx n 0 lo:Nat):Int)/\(sliceBounds lo hi none n).2.1=((HT.sIx n n hi:Nat):Int)/\(sliceBounds lo hi none n).2.2=1:=by
  refine⟨?_,?_,rfl⟩
  . cases lo with
    | none=>simp[sliceBounds,HT.sIx]
    | some i=>
      simp only[sliceBounds,HT.sIx,Option.getD_none,show(1:Int) > 0 by decide,if_true]
      by_cases h:i < 0
      . simp only[h,if_true] <;> omega
      . simp only[h,if_false] <;> omega
  . cases hi with
    | none=>simp[sliceBounds,HT.sIx]
    | some i=>
      simp only[sliceBounds,HT.sIx,Option.getD_none,show(1:Int) > 0 by decide,if_true]
      by_cases h:i < 0
      . simp only[h,if_true] <;> omega
      . simp only[h,if_false] <;> omega
theorem KT(its:List Value)(lo hi:Option Int):slicePick its.toArray lo hi none=((its.drop (HT.sIx its.length 0 lo)).take (HT.sIx its.length its.length hi - HT.sIx its.length 0 lo)).toArray:=by
  obtain⟨h1,h2,h3⟩:=LI lo hi its.toArray.size
  unfold slicePick
  rw[h1,h2,h3]
  simp only[sliceRange_one,pick_run,List.size_toArray] <;> rfl
noncomputable def Nl(K:PySem.W.Frag):V->Option Int->Option Int->Hp->VK->Prop:=λ x lo hi H Q=>∃ a xs,x=.ref a/\SqL K H a xs/\∀ p,H p=none->Q (.ref p) (upd H p (.lst (Ii xs lo hi)))
theorem T6:SlR X (Nl X.K):=by
  intro pins s σ H x v vl vu lo hi sl Q I rx hs pl pu h
  obtain⟨a,xs,rfl,hx,q⟩:=h
  cases rx
  obtain⟨its,r,ht,hz⟩:=I.list hx
  have hlen:=r.length
  refine⟨"list",_,slot_list_getitem.lookup,ht.isList.typeIs,?_⟩
  refine wpAny_getItem_list_slice ht.isList hs pl pu .none (by simp) ?_ (by rw[List.size_toArray] <;> omega)
  rw[KT,<- hlen]
  refine⟨.ref s.heap.objs.size,_,I.laid (t':=s.toks) (o:=.lst (Ii xs lo hi)) (λ b ob q=>Heap.get?_push_of_some _ q) (Nat.le_refl _) ?_,rfl,q _ (I.hok.fresh (Nat.le_refl _))⟩
  exact⟨Nat.le_trans (Mf xs lo hi) hz,_,0,(r.drop (HT.sIx xs.length 0 lo)).take (HT.sIx xs.length xs.length hi - HT.sIx xs.length 0 lo),Heap.get?_push_size _ rfl⟩
noncomputable def EQ:V->Bool
  | .non=>true
  | .bl _=>true
  | .int _=>true
  | .str _=>true
  | _=>false
noncomputable def eqV:V->V->Bool
  | .non,.non=>true
  | .bl a,.bl b=>a == b
  | .bl a,.int b=>(if a then 1 else 0) == b
  | .int a,.bl b=>a == (if b then 1 else 0)
  | .int a,.int b=>a == b
  | .str a,.str b=>a == b
  | _,_=>false
theorem Wl{A:Around}{s:Shared}{y x:V}{u v:Value}(ry:RelV y u)(rx:RelV x v)(fy:EQ y=true)(fx:EQ x=true):SeqAt.EqAt A s u v (eqV y x):=by
  cases y with
  | non=>
    cases ry
    cases x with
    | non=>cases rx;exact SeqAt.EqAt.same _
    | bl b=>cases rx;exact SeqAt.EqAt.none_bool b
    | int b=>obtain⟨t,rfl⟩:=rx;exact SeqAt.EqAt.none_int b t
    | str b=>obtain⟨t,rfl⟩:=rx;exact SeqAt.EqAt.none_str b t
    | _=>exact absurd (show false=true from fx) Bool.false_ne_true
  | bl a=>
    cases ry
    cases x with
    | non=>cases rx;exact SeqAt.EqAt.bool_none a
    | bl b=>cases rx;exact SeqAt.EqAt.bool_bool a b
    | int b=>obtain⟨t,rfl⟩:=rx;exact SeqAt.EqAt.bool_int a b t
    | str b=>obtain⟨t,rfl⟩:=rx;exact SeqAt.EqAt.bool_str a b t
    | _=>exact absurd (show false=true from fx) Bool.false_ne_true
  | int a=>
    obtain⟨t',rfl⟩:=ry
    cases x with
    | non=>cases rx;exact SeqAt.EqAt.int_none a t'
    | bl b=>cases rx;exact SeqAt.EqAt.int_bool a t' b
    | int b=>obtain⟨t,rfl⟩:=rx;exact SeqAt.EqAt.int_int a t' b t
    | str b=>obtain⟨t,rfl⟩:=rx;exact SeqAt.EqAt.int_str a t' b t
    | _=>exact absurd (show false=true from fx) Bool.false_ne_true
  | str a=>
    obtain⟨t',rfl⟩:=ry
    cases x with
    | non=>cases rx;exact SeqAt.EqAt.str_none a t'
    | bl b=>cases rx;exact SeqAt.EqAt.str_bool a t' b
    | int b=>obtain⟨t,rfl⟩:=rx;exact SeqAt.EqAt.str_int a t' b t
    | str b=>obtain⟨t,rfl⟩:=rx;exact SeqAt.EqAt.str_str a t' b t
    | _=>exact absurd (show false=true from fx) Bool.false_ne_true
  | _=>exact absurd (show false=true from fy) Bool.false_ne_true
noncomputable def eqU(x:V)(u:Value):Bool:=match u with
  | .none=>eqV .non x
  | .bool b=>eqV (.bl b) x
  | .int i _=>eqV (.int i) x
  | .str z _=>eqV (.str z) x
  | _=>false
theorem Pi{x y:V}{u:Value}(r:RelV y u)(f:EQ y=true):eqU x u=eqV y x:=by
  cases y with
  | non=>cases r;rfl
  | bl b=>cases r;rfl
  | int i=>obtain⟨t,rfl⟩:=r;rfl
  | str z=>obtain⟨t,rfl⟩:=r;rfl
  | _=>exact absurd (show false=true from f) Bool.false_ne_true
theorem K6{x:V}:∀ {xs:List V} {us:List Value},Vals xs us->xs.all EQ=true->us.any (eqU x)=xs.any λ y=>eqV y x
  | _,_,.nil,_=>rfl
  | y :: xs,u :: us,.cons r t,f=>by
    rw[List.all_cons,Bool.and_eq_true]at f
    rw[List.any_cons,List.any_cons,Pi r f.1,K6 t f.2]
theorem IY{A:Around}{s:Shared}{x:V}{v:Value}(rx:RelV x v)(fx:EQ x=true):∀ {xs:List V} {us:List Value},Vals xs us->xs.all EQ=true->∀ u ∈ us,SeqAt.EqAt A s u v (eqU x u)
  | _,_,.nil,_=>λ u hu=>by cases hu
  | y :: xs,u :: us,.cons r t,f=>λ u' hu=>by
    rw[List.all_cons,Bool.and_eq_true]at f
    rcases List.mem_cons.mp hu with rfl|hu
    . rw[Pi r f.1];exact Wl r rx f.1 fx
    . exact IY rx fx t f.2 u' hu
noncomputable def inV(x:V)(xs:List V):Bool:=xs.any λ y=>eqV y x
noncomputable def rIn(K:PySem.W.Frag)(neg:Bool):R2:=λ x y H Q=>∃ p xs,y=.ref p/\(SqL K H p xs ∨ SqT K H p xs)/\EQ x=true/\xs.all EQ=true/\Q (.bl (if neg then !inV x xs else inV x xs)) H
theorem Lm:OpR X (compareOp .NotIn) (rIn X.K true):=by
  intro pins s σ H x y v u Q I rx ry h
  obtain⟨p,xs,rfl,hq,fx,fs,q⟩:=h
  cases ry
  rcases hq with hq|hq
  . obtain⟨its,r,pl,hz⟩:=I.list hq
    refine SeqAt.notIn_listAt (eqU x) pl.isList (λ w hw=>IY rx fx r fs w (by simpa using hw)) ⟨.bl _,H,I,rfl,?_⟩
    rw[show its.toArray.any (eqU x)=its.any (eqU x) by simp,K6 r fs]
    exact q
  . obtain⟨its,r,pl,hz⟩:=I.tuple hq
    refine SeqAt.notIn_tupleAt (eqU x) pl (λ w hw=>IY rx fx r fs w (by simpa using hw)) ⟨.bl _,H,I,rfl,?_⟩
    rw[show its.toArray.any (eqU x)=its.any (eqU x) by simp,K6 r fs]
    exact q
theorem MQ:CallR X (.builtin "len") (λ xs H Q=>∃ p ys,xs=[.ref p]/\(SqL X.K H p ys ∨ SqT X.K H p ys)/\Q (.int ys.length) H):=by
  intro pins s σ H xs us Q I r h
  obtain⟨p,ys,rfl,hq,q⟩:=h
  obtain⟨u,rfl,rx⟩:=Cc r
  cases rx
  have hn:=Fz
  rcases hq with hq|hq
  . obtain⟨its,r',pl,hz⟩:=I.list hq
    have hlen:=r'.length
    exact Calls.call_len_list pl.isList (by simp only[List.size_toArray] <;> omega) ⟨.int ys.length,H,I.tok _,⟨s.toks + 1,by rw[List.size_toArray,hlen]⟩,q⟩
  . obtain⟨its,r',pl,hz⟩:=I.tuple hq
    have hlen:=r'.length
    exact len_tuple pl (by simp only[List.size_toArray] <;> omega) ⟨.int ys.length,H,I.tok _,⟨s.toks + 1,by rw[List.size_toArray,hlen]⟩,q⟩
theorem CallR.or{f:Value}{r r':List V->Hp->VK->Prop}(h:CallR X f r)(h':CallR X f r'):CallR X f (λ xs H Q=>r xs H Q ∨ r' xs H Q):=by
  intro pins s σ H xs us Q I rs q
  rcases q with q|q
  . exact h pins s σ H xs us Q I rs q
  . exact h' pins s σ H xs us Q I rs q
theorem MP:CallR X (.type "list") (λ xs H Q=>∃ p ys,xs=[.ref p]/\(SqL X.K H p ys ∨ SqT X.K H p ys)/\∀ l,H l=none->Q (.ref l) (upd H l (.lst ys))):=by
  intro pins s σ H xs us Q I r h
  obtain⟨p,ys,rfl,hq,q⟩:=h
  obtain⟨u,rfl,rx⟩:=Cc r
  cases rx
  have fin:∀ (its:List Value),Vals ys its->ys.length <= sizeLine->∀ (h':Heap) (c':Nat),(∀ b o',s.heap.get? b=some o'->h'.get? b=some o') ->
      h'.get? s.heap.objs.size=some { cls:=.type "list",dict:=none,data:=.seq its.toArray c',slots:=#[] }->EP X pins σ Q (.ref s.heap.objs.size) { s with heap:=h' }:=λ its r' hz h' c' kp e=>
    ⟨.ref s.heap.objs.size,_,I.laid (t':=s.toks) kp (Nat.le_refl _) (show ObjOk X.prog X.w _ h' _ (.lst ys)from⟨hz,its,c',r',e⟩),rfl,q _ (I.hok.fresh (Nat.le_refl _))⟩
  rcases hq with hq|hq
  . obtain⟨its,r',pl,hz⟩:=I.list hq
    have hlen:=r'.length
    obtain⟨o,ho,hc,n,hd⟩:=pl.isList
    exact call_list_seq p (.inl rfl) ho hc hd (λ h' c' kp e=>fin its r' hz h' c' kp e) (by simp only[List.size_toArray] <;> omega)
  . obtain⟨its,r',pl,hz⟩:=I.tuple hq
    have hlen:=r'.length
    obtain⟨o,ho,hc,n,hd⟩:=pl
    exact call_list_seq p (.inr rfl) ho hc hd (λ h' c' kp e=>fin its r' hz h' c' kp e) (by simp only[List.size_toArray] <;> omega)
theorem KW:CallR X (.type "tuple") (λ xs H Q=>∃ p ys,xs=[.ref p]/\((SqL X.K H p ys/\∀ l,H l=none->Q (.ref l) (upd H l (.tup ys))) ∨ (SqT X.K H p ys/\Q (.ref p) H))):=by
  intro pins s σ H xs us Q I r h
  obtain⟨p,ys,rfl,h⟩:=h
  obtain⟨u,rfl,rx⟩:=Cc r
  cases rx
  rcases h with⟨hq,q⟩|⟨hq,q⟩
  . obtain⟨its,r',pl,hz⟩:=I.list hq
    have hlen:=r'.length
    refine call_tuple_list pl.isList (λ h' kp=>?_) (by simp only[List.size_toArray] <;> omega)
    have I1:Inv X pins σ H { s with heap:=h' }:=I.kept (t':=s.toks) kp
    have I2:Inv X pins σ (upd H h'.objs.size (.tup ys)) { s with heap:=h'.push { cls:=.type "tuple",data:=.seq its.toArray } }:=
      I1.laid (t':=s.toks) (λ b o e=>Heap.get?_push_of_some _ e) (Nat.le_refl _) (show ObjOk X.prog X.w _ _ _ (.tup ys)from⟨hz,its,r',IsTupD.new _ _⟩)
    exact⟨.ref h'.objs.size,_,I2,rfl,q _ (I1.hok.fresh (Nat.le_refl _))⟩
  . obtain⟨its,r',pl,hz⟩:=I.tuple hq
    exact call_tuple_same pl ⟨.ref p,H,I,rfl,q⟩
noncomputable def tyV(K:PySem.W.Frag)(T:String)(x:V)(H:Hp):Prop:=match x with
  | .str _=>T="str"
  | .int _=>T="int"
  | .ref p=>(T="list"/\∃ xs,SqL K H p xs) ∨ (T="tuple"/\∃ o,K.lookup p=some o/\o.cls=.type "tuple"/\o.dict=none) ∨
      (T="dict"/\((∃ kvs,H p=some (.dK kvs)) ∨ ∃ kvs,H p=some (.dT kvs))) ∨ (T="set"/\∃ S n,H p=some (.set S n))
  | _=>False
theorem Us{pins:List (Addr × Obj)}{σ:St}{H:Hp}{s:Shared}{T:String}{x:V}{v:Value}(I:Inv X pins σ H s)(r:RelV x v)(ty:tyV X.K T x H) :
    s.TypeIs v T/\∀ a,v=.ref a->∃ ob,s.heap.get? a=some ob/\ob.dict=none:=by
  cases x with
  | str z=>
    obtain⟨t,rfl⟩:=r
    cases(show T="str" from ty)
    exact⟨typeIs_str s z t,λ _ e=>nomatch e⟩
  | int i=>
    obtain⟨t,rfl⟩:=r
    cases(show T="int" from ty)
    exact⟨typeIs_int s i t,λ _ e=>nomatch e⟩
  | ref p=>
    cases r
    rcases ty with⟨rfl,xs,hq⟩|⟨rfl,o,hk,hc,hd⟩|⟨rfl,hk⟩|⟨rfl,S,n,hk⟩
    . obtain⟨its,_,pl,_⟩:=I.list hq
      refine⟨pl.isList.typeIs,λ a e=>?_⟩
      cases e
      obtain⟨o,n,e,c,hd,_⟩:=pl
      exact⟨o,e,hd⟩
    . refine⟨⟨o,I.kIn p o hk,hc⟩,λ a e=>?_⟩
      cases e
      exact⟨o,I.kIn _ o hk,hd⟩
    . have z:∃ o,s.heap.get? p=some o/\o.ExactDict:=by
        rcases hk with⟨kvs,hk⟩|⟨kvs,hk⟩
        . obtain⟨_,_,_,_,o,_,_,e,ex,_⟩:=I.hok p _ hk
          exact⟨o,e,ex⟩
        . obtain⟨_,_,_,_,o,_,_,e,ex,_⟩:=I.hok p _ hk
          exact⟨o,e,ex⟩
      obtain⟨o,e,ex⟩:=z
      refine⟨⟨o,e,ex.1⟩,λ a e2=>?_⟩
      cases e2
      exact⟨o,e,ex.2.1⟩
    . obtain⟨o,_,_,_,e,ex,_⟩:=I.hok p _ hk
      refine⟨⟨o,e,ex.1⟩,λ a e2=>?_⟩
      cases e2
      exact⟨o,e,ex.2.1⟩
  | _=>exact False.elim ty
noncomputable def tBM(K:PySem.W.Frag)(T:String)(r:V->List V->Hp->VK->Prop)(to:TE)(t:TA):TE:=λ σ H Q=>to σ H λ x H1=>tyV K T x H1/\t σ H1 λ xs H2=>r x xs H2 Q
variable{o e:Expr}{es:List Expr}{to:TE}{t:TA}{name:Str}{apos cpos:Pos}{T id:String}{r:V->List V->Hp->VK->Prop}
theorem XR(pa:PlainAttrs T)(slot:Slot T name id)(hty:typeOf (.builtin id)=pure (.type "method_descriptor"))(hm:MtR X id r)(ho:PE X o to)(ha:PA X (e :: es) t)
    (hbase:attributeBase o name X.env (eval o X.env)=eval o X.env:=by rfl)
    (hfew:((backTo cpos (starEach (e :: es) X.env)).all (λ x=>!x.1) && (backToKw cpos (keywordEach [] X.env)).all (λ x=>x.1.isSome)
      && decide ((e :: es).length + ([]:List Keyword).length + (if([]:List Keyword).isEmpty then 0 else 1) < 30))=true:=by rfl)
    (hline:(apos.endLine == cpos.line)=true:=by rfl) (hs:starEach (e :: es) X.env=(false,eval e X.env) :: starEach es X.env:=by rfl) (hplain:(backTo cpos (starEach es X.env)).any (·.1)=false:=by rfl) :
    PE X (.Call (.Attribute o name apos) (e :: es) [] cpos) (tBM X.K T r to t):=by
  intro pins s σ H Q I h
  refine wpAny_Call_method_late hbase hfew hline rfl (thn (ho pins s σ H _ I h) λ v s1 ⟨x,H1,I1,r1,ty,q1⟩=>?_)
  obtain⟨h1,h2⟩:=Us I1 r1 ty
  refine⟨T,id,pa,slot,hty,h1,h2,?_⟩
  have hA:=ha cpos pins s1 σ H1 _ I1 q1
  rw[hs]at hA ⊢
  refine Calls.callWith_builtin (by show(false || (backTo cpos (starEach es X.env)).any (·.1))=false;rw[hplain] <;> rfl) (Calls.evalArgs_plain ?_)
  exact thn hA λ us s2 ⟨vs,H2,I2,r2,q2⟩=>hm pins s2 σ H2 x vs v us Q I2 r1 r2 q2
end
end L2
namespace L2
open PySem PySem.Spec PyProof.Rows
noncomputable def MtM(X:Cx)(id:String)(r:V->List V->Hp->VK->Prop):Prop:=
  ∀ (pins:List (Addr × Obj)) (s:Shared) (σ:St) (H:Hp) (x:V) (xs:List V) (v:Value) (us:List Value) (Q:VK),Inv X pins σ H s->RelV x v->Vals xs us->r x xs H Q ->
    wpAny (model X.prog X.w) X.A (call (.builtin id) (v :: us)) (EP X pins σ Q) X.xe s
theorem Vals.one:∀ {x:V} {us:List Value},Vals [x] us->∃ u,us=[u]/\RelV x u
  | _,_,.cons r .nil=>⟨_,rfl,r⟩
theorem Vals.eraseIdx:∀ {xs:List V} {us:List Value} (i:Nat),Vals xs us->Vals (xs.eraseIdx i) (us.eraseIdx i)
  | _,_,_,.nil=>.nil
  | _,_,0,.cons _ t=>t
  | _,_,i + 1,.cons r t=>.cons r (Vals.eraseIdx i t)
theorem KH{α:Type}:∀ (l:List α) (i:Nat),(l.eraseIdx i).length <= l.length
  | [],_=>Nat.le_refl _
  | _ :: _,0=>Nat.le_succ _
  | _ :: r,i + 1=>Nat.succ_le_succ (KH r i)
section
variable{X:Cx}{pins:List (Addr × Obj)}{σ:St}{H:Hp}{s:Shared}{l b:Addr}{xs ys zs:List V}
theorem Inv.lset{its its':List Value}{n:Nat}{f:Array Value->Array Value}{t':Nat}(I:Inv X pins σ H s)(hH:H l=some (.lst xs))
    (e:s.heap.get? l=some { cls:=.type "list",data:=.seq its.toArray n }) (hf:f its.toArray=its'.toArray) (hv:Vals ys its') (hz:ys.length <= sizeLine) :
    Inv X pins σ (upd H l (.lst ys)) { s with heap:=s.heap.update l (Obj.mapSeq f),toks:=t' }:=by
  have q:=PySem.IsL.update e f
  rw[hf]at q
  refine I.write (x:=l) (e:=l) (by rw[hH];exact trivial) (.inl rfl) (λ b' u hb hu=>(Heap.get?_update_other s.heap (Obj.mapSeq f) (Ne.symm hb)).trans hu) ⟨_,q⟩ ?_
  exact⟨hz,its',_,hv,q⟩
theorem Inv.lnew{its:List Value}{t':Nat}(I:Inv X pins σ H s)(hv:Vals ys its)(hz:ys.length <= sizeLine) :
    Inv X pins σ (upd H s.heap.objs.size (.lst ys)) { s with heap:=s.heap.push { cls:=.type "list",data:=.seq its.toArray },toks:=t' }:=
  I.laid (λ _ _ q=>Heap.get?_push_of_some _ q) (Nat.le_refl _) ⟨hz,its,0,hv,Heap.get?_push_size _ rfl⟩
theorem Inv.fresh(I:Inv X pins σ H s):H s.heap.objs.size=none:=I.hok.fresh (Nat.le_refl _)
theorem Inv.lstM(I:Inv X pins σ H s)(hH:H l=some (.lst xs)):xs.length <= sizeLine/\∃ (its:List Value) (n:Nat),Vals xs its/\xs.length=its.length/\s.heap.get? l=some { cls:=.type "list",data:=.seq its.toArray n }:=by
  obtain⟨z,its,n,r,e⟩:=I.hok l _ hH
  exact⟨z,its,n,r,r.length,e⟩
theorem Lo{n:Nat}(h:n <= sizeLine):Builtin.List.listTooLong n=false:=by
  unfold Builtin.List.listTooLong
  exact decide_eq_false (by omega)
end
section
variable{X:Cx}
noncomputable def Mx:V->List V->Hp->VK->Prop:=λ x vs H Q=>∃ l xs y,x=.ref l/\vs=[y]/\H l=some (.lst xs)/\xs.length < sizeLine/\Q .non (upd H l (.lst (xs ++ [y])))
theorem Dw:MtM X "list.append" Mx:=by
  intro pins s σ H x vs v us Q I rx rv h
  obtain⟨l,xs,y,rfl,rfl,hH,hz,q⟩:=h
  cases rx
  obtain⟨u,rfl,ru⟩:=rv.one
  obtain⟨z,its,n,r,hl,e⟩:=I.lstM hH
  refine call_meets F.slot_list_append ⟨_,e,rfl⟩ F.entry_list_append (F.args_list_append_2 _ _) (PySem.list_append l its.toArray n u (by rw[List.size_toArray];omega)) ⟨e,?_⟩
  refine⟨.non,_,I.lset (its':=its ++ [u]) hH e (by simp) (r.append (.cons ru .nil)) ?_,rfl,q⟩
  rw[List.length_append,List.length_singleton]
  omega
noncomputable def Th:V->List V->Hp->VK->Prop:=λ x vs H Q=>∃ l b xs zs,x=.ref l/\vs=[.ref b]/\H l=some (.lst xs)/\H b=some (.lst zs)/\xs.length + zs.length <= sizeLine/\Q .non (upd H l (.lst (xs ++ zs)))
theorem Xx:MtM X "list.extend" Th:=by
  intro pins s σ H x vs v us Q I rx rv h
  obtain⟨l,b,xs,zs,rfl,rfl,hH,hB,hz,q⟩:=h
  cases rx
  obtain⟨u,rfl,ru⟩:=rv.one
  cases ru
  obtain⟨z,its,n,r,hl,e⟩:=I.lstM hH
  obtain⟨z2,its2,n2,r2,hl2,e2⟩:=I.lstM hB
  have hsz:its.toArray.size + its2.toArray.size <= sizeLine:=by rw[List.size_toArray,List.size_toArray];omega
  have hlong:¬ (!its.toArray.isEmpty && Builtin.List.listTooLong (its.toArray.size + its2.toArray.size))=true:=by
    rw[Lo hsz,Bool.and_false]
    exact Bool.false_ne_true
  refine call_meets F.slot_list_extend ⟨_,e,rfl⟩ F.entry_list_extend (F.args_list_extend_2 _ _)
    (AutoSeq1.list_extend_list_list_0 l its.toArray n b its2.toArray n2 hlong (by rw[List.size_toArray];omega) (by omega)) ⟨e,e2,?_⟩
  refine⟨.non,_,I.lset (its':=its ++ its2) hH e (by simp) (r.append r2) ?_,rfl,q⟩
  rw[List.length_append]
  omega
noncomputable def Oo:V->List V->Hp->VK->Prop:=λ x vs H Q=>∃ l xs i k y,x=.ref l/\vs=[.int i]/\H l=some (.lst xs)/\-(2 ^ 63) <= i/\i < 2 ^ 63/\seqIndex? i xs.length=some k/\xs[k]? = some y/\Q y (upd H l (.lst (xs.eraseIdx k)))
theorem Rm:MtM X "list.pop" Oo:=by
  intro pins s σ H x vs v us Q I rx rv h
  obtain⟨l,xs,i,k,y,rfl,rfl,hH,h1,h2,hk,hy,q⟩:=h
  cases rx
  obtain⟨u,rfl,ru⟩:=rv.one
  obtain⟨t,rfl⟩:=ru
  obtain⟨z,its,n,r,hl,e⟩:=I.lstM hH
  obtain⟨w,hw,rw'⟩:=r.get hy
  refine call_meets F.slot_list_pop ⟨_,e,rfl⟩ F.entry_list_pop (F.args_list_pop_2 _ _)
    (MeetsSeq.list_pop_at l its.toArray n i t k w (fitsIndex_both h1 h2) (by rw[List.size_toArray,<- hl];exact hk) (by rw[<- Array.getElem?_toList];exact hw) (by rw[List.size_toArray];omega)) ⟨e,?_⟩
  refine⟨y,_,I.lset (its':=its.eraseIdx k) hH e ?_ (r.eraseIdx k) ?_,rw',q⟩
  . show its.toArray.eraseIdxIfInBounds k=(its.eraseIdx k).toArray
    rw[List.eraseIdxIfInBounds_toArray]
  . have:=KH xs k
    omega
noncomputable def RO:R2:=λ x y H Q=>∃ l b xs zs,x=.ref l/\y=.ref b/\H l=some (.lst xs)/\H b=some (.lst zs)/\xs.length + zs.length <= sizeLine/\∀ p,H p=none->Q (.ref p) (upd H p (.lst (xs ++ zs)))
theorem W3:OpR X (binaryOp .Add) RO:=by
  intro pins s σ H x y v u Q I rx ry h
  obtain⟨l,b,xs,zs,rfl,rfl,hH,hB,hz,q⟩:=h
  cases rx
  cases ry
  obtain⟨z,its,n,r,hl,e⟩:=I.lstM hH
  obtain⟨z2,its2,n2,r2,hl2,e2⟩:=I.lstM hB
  refine PySem.P.add_list e e2 ?_ (by rw[List.size_toArray,List.size_toArray];omega)
  have ea:its.toArray ++ its2.toArray=(its ++ its2).toArray:=by simp
  rw[ea]
  exact⟨.ref _,_,I.lnew (t':=s.toks) (r.append r2) (by rw[List.length_append];omega),rfl,q _ I.fresh⟩
end
section
variable{prog:Program}{w:World}{A:Around}{E:Value->Shared->Prop}{s:Shared}
end
section
variable{X:Cx}
end
end L2
namespace Att
open PySem PySem.W PySem.Calls PyProof.Rows
theorem JS{P:Params}{h:Heap}:∀ (ns:List Int) (vs:List Value),WellAll P h vs (ns.map WData.int)->IntsAre vs ns:=by
  intro ns
  induction ns with
  | nil=>
    intro vs w
    rw[List.map_nil]at w
    cases w
    exact .nil
  | cons n ns ih=>
    intro vs w
    rw[List.map_cons]at w
    cases w with
    | cons a b=>
      cases a
      exact .cons _ _ (ih _ b)
theorem Oe{l:OpenLaw}{n:Nat}(hn:l.most=some n){P:Params}{h:Heap}{args:List WData}{vals:List Value}
    (hpre:l.row.toRowW.claim.pre args=true) (hwl:WellAll P h vals args) :
    ∃ a vs ns,vals=[Value.ref a]/\args=[WData.list (ns.map WData.int)]/\h.get? a=some { cls:=.type "list",data:=.seq vs.toArray }/\IntsAre vs ns/\ns.length <= n:=by
  have hsh:WShape.hasAll [] args [.list .int]=true:=(pre_splitW hpre).1
  have hc:l.pre.holds [] { args:=args }=true:=(pre_splitW hpre).2
  obtain⟨d,r,rfl,h1,h2⟩:=hasAllW_cons hsh
  obtain rfl:=hasAllW_nil h2
  obtain⟨xs,rfl,h3⟩:=hasW_list h1
  obtain⟨ns,rfl⟩:=items_int h3
  have hlen:ns.length <= n:=by
    unfold OpenLaw.pre at hc
    have h4:(WTm.not (.lt (.lit (.int (n:Int))) (.len (.arg 0)))).holds [] { args:=[.list (ns.map .int)] }=true:=by
      have h4:=(holds_andW hc).1
      rw[hn]at h4
      exact h4
    have h5:=condW_of h4 (w_not (w_lt w_lit (w_len_list (w_arg rfl))))
    rw[List.length_map]at h5
    refine Nat.le_of_not_lt λ q=>?_
    have q':(n:Int) < ((ns.length:Nat):Int):=by omega
    first
      | (rw[decide_eq_true q']at h5;exact absurd h5 (by decide))
      | (simp at h5;omega)
  cases hwl with
  | cons w1 w2=>
    cases w2
    cases w1 with
    | list ho hall=>exact⟨_,_,ns,rfl,rfl,ho,JS ns _ hall,hlen⟩
theorem Oy(l:OpenLaw)(args:List WData):l.row.toRowW.claim.post args (.bool true) args=true:=
  postW_of (r:=l.row.toRowW) (X:=(true == true))
    (show WShape.has [] (.bool true) .bool=true by first|rfl|decide|simp[WShape.has,WShape.arms,WShape.armsAll])
    (show(WTm.eq .res (.lit (.bool true))).value [] { args:=args,res:=some (.bool true),after:=args }=some (.bool (true == true))from w_eq_bool (w_res rfl) w_lit) rfl
theorem attach_call{l:OpenLaw}{n:Nat}{q:Program}{loose:List Str}{XP:(Str->Option Value)->Heap->Prop}{YP:World->Heap->Prop}{d:DefRec}
    (hn:l.most=some n) (hdf:d.params.defaults=[])
    (call:∀ (w:World) (s₀ s₁:Shared) (mg mb:Str->Option Value) (fa:Addr) (o:Obj) (pm cd doc:Value) (a:Addr) (vs:List Value) (ns:List Int),
      Ground q loose [] XP w s₀ mg mb s₁.heap->YP w s₁.heap ->
      s₁.heap.get? fa=some o->o.data=.func (docDef d.name d.params d.body d.scope pm cd doc)->s₁.heap.CodeRec cd d.name->mg d.name=some (.ref fa) ->
      s₁.heap.get? a=some { cls:=.type "list",data:=.seq vs.toArray }->IntsAre vs ns->ns.length <= n->s₁.gens=#[] ->
      codeAny (model l.prog w) callerA (.call (.ref fa) ⟨[.ref a],[]⟩) (λ r s'=>r=.ok (.ret (.bool true))/\OldK s₁.heap s'.heap/\s'.os=s₁.os/\AllBare s'.gens) s₁) :
    WalkO q loose XP YP l.row.toRowW d [] (λ f vs=>PySem.call f vs):=by
  intro w s₀ s₁ mg mb G Y fa o pm cd doc dV kV ho hd hcd hD hmg hg args vals as hpre hlay hrd hwl hlo
  obtain rfl:dV=.none:=Dflts.none hD hdf
  obtain rfl:kV=.none:=Dflts.noKw hD
  obtain⟨a,vs,ns,rfl,rfl,hobj,hints,hlen⟩:=Oe hn hpre hwl
  refine enter_call (codeAny_mono (call w s₀ s₁ mg mb fa o pm cd doc a vs ns G Y ho (fd_plain hd) hcd hmg hobj hints hlen hg) λ r s' hq=>?_)
  obtain⟨rfl,h2,h3,h4⟩:=hq
  exact⟨.inl ⟨.bool true,.bool true,[],rfl,λ _=>rfl,.bool true,Oy l _,λ _=>⟨List.Pairwise.nil,λ _ hm=>(nomatch hm)⟩⟩,h2,h3,h4⟩
section
variable{prog:Program}{w:World}{A:Around}{E:Value->Shared->Prop}{s:Shared}{K:Frag}
end
end Att
namespace L2
open PySem PySem.Spec PyProof.Rows
theorem K8:∀ {vs:List Value} {ns:List Int},IntsAre vs ns->Vals (ns.map V.int) vs
  | _,_,.nil=>.nil
  | _,_,.cons n t h=>.cons ⟨t,rfl⟩ (K8 h)
end L2
namespace L2
open PySem PySem.Spec PyProof.Rows
end L2
namespace L2
open PySem PySem.Spec PyProof.Rows
noncomputable def AU(s:Stmt):Arguments:=match s with
  | .FunctionDef _ a _ _ _ _ _ _ _ _=>a
  | _=>{ posonlyargs:=[],args:=[],vararg:=none,kwonlyargs:=[],kw_defaults:=[],kwarg:=none,defaults:=[] }
noncomputable def AT(s:Stmt):List Stmt:=match s with
  | .FunctionDef _ _ b _ _ _ _ _ _ _=>b
  | _=>[]
noncomputable def A9(s:Stmt):Scope:=match s with
  | .FunctionDef _ _ _ _ _ _ sc _ _ _=>sc
  | _=>{ kind:=.function,names:=[],isGenerator:=false,isCoroutine:=false }
noncomputable abbrev CX0:CXT:=λ _ _ _ _ _ _=>False
noncomputable abbrev E0:XK:=λ _ _ _=>False
theorem XT{X:Cx}:Ma CX0 X E0:=λ _ _ _ _ _ _ _ h=>h.elim
structure Fun(K:PySem.W.Frag)(x qual:Str)(st:Stmt)(f:Addr)(fd:FuncData):Prop where
  ex:∃ (oc:Value) (od:Option Addr) (kV doc pm:Value) (an:Option Addr) (cdv ct:Value) (osl:Array (Option Value)),
    fd=PySem.W.fnOf x qual (AU st) (AT st) (A9 st) .none kV doc pm an cdv ct/\K.lookup f=some ⟨oc,od,.func fd,osl⟩/\PySem.W.codeIn K cdv qual=true
  kp:PySem.W.keepIn K (.ref f)=true
section
variable{P:Program}{w:World}{K:PySem.W.Frag}{mg:Str->Option Value}{base:Heap}
theorem Fun.ok{x qual:Str}{st:Stmt}{f:Addr}{fd:FuncData}{N ps:List Str}{k:Nat}{sp:Sp}(F:Fun K x qual st f fd)(S:FnScope N ps (A9 st))(len:∀ vs H Q E,sp vs H Q E->vs.length=ps.length)
    (hbody:∀ (cdv:Value) (A:Around) (outer:List Env) (s:Shared) (H:Hp) (vs:List V) (Q:VK) (E:XK),Room k (A.deeper (envOfC qual (A9 st) s.heap.objs.size f cdv))->sp vs H Q E ->
      ∃ t,PSs (Ih CX0 P w K mg base N qual (A9 st) f cdv A outer s H E).nox (AT st) t/\t { nx:=λ _ H'=>Q .non H',rt:=Q } (Dr N vs) H):FnOk P w K mg base CX0 (k + 1) f fd ps sp:=by
  obtain⟨oc,od,kV,doc,pm,an,cdv,ct,osl,rfl,lk,hcd⟩:=F.ex
  refine Xn lk hcd S len λ A outer s H vs Q E hr hsp=>?_
  obtain⟨t,h,q⟩:=hbody cdv A outer s H vs Q E hr hsp
  exact⟨t,h.nox,q⟩
theorem Fun.binds{x qual:Str}{st:Stmt}{f:Addr}{fd:FuncData}{ps:List Str}(F:Fun K x qual st f fd)
    (h:∀ (kV doc pm:Value) (an:Option Addr) (cdv ct:Value) (us:List Value),us.length=ps.length->bindArgs (PySem.W.fnOf x qual (AU st) (AT st) (A9 st) .none kV doc pm an cdv ct) ⟨us,[]⟩=pure (ps.zip us)):Binds K fd ps []:=by
  obtain⟨oc,od,kV,doc,pm,an,cdv,ct,osl,rfl,lk,hcd⟩:=F.ex
  exact .all (h kV doc pm an cdv ct)
theorem Ar{x qual:Str}{st:Stmt}{f:Addr}{oc:Value}{od an:Option Addr}{osl:Array (Option Value)}{kV doc pm cdv ct:Value}(l:K.lookup f=some ⟨oc,od,.func (PySem.W.fnOf x qual (AU st) (AT st) (A9 st) .none kV doc pm an cdv ct),osl⟩)
    (c:PySem.W.codeIn K cdv qual=true) (k:PySem.W.keepIn K (.ref f)=true):Fun K x qual st f (PySem.W.fnOf x qual (AU st) (AT st) (A9 st) .none kV doc pm an cdv ct):=⟨⟨oc,od,kV,doc,pm,an,cdv,ct,osl,rfl,l,c⟩,k⟩
end
theorem KA{n:Nat}(h:n <= 1000):n < sizeLine:=Nat.lt_of_le_of_lt h (by decide)
section
variable{X:Cx}
theorem pv(i:Nat){x:Str}{pos:Pos}(hN:X.N[i]? = some x:=by rfl)(hv:Vis X.env.scope x:=by first|exact Or.inl rfl|exact Or.inr (Or.inl rfl)|exact Or.inr (Or.inr rfl))(hd:(x == ("__debug__":Str))=false:=by decide)
    (hcd:(x == ("__classdict__":Str))=false:=by decide):PE X (.Name x pos) (NT i):=P4 hN hv hd hcd
end
end L2
namespace L2
open PySem PySem.Spec PyProof.Rows
section
variable{κ:Type}[DecidableEq κ]
end
section
variable{P:Program}{w:World}{H:Hp}{h:Heap}{a:Addr}
end
section
variable{X:Cx}{pins:List (Addr × Obj)}{σ:St}{H:Hp}{s:Shared}{a:Addr}{y v:V}{u r:Value}{o:Option V}{A:Around}{E:Value->Shared->Prop}
theorem Uc{h':Heap}{t':Nat}{ob:HO}(I:Inv X pins σ H s)(mu:Mut (H a))(hs:Heap.SameBut a s.heap h')(he:∃ q,h'.get? a=some q)(new:ObjOk X.prog X.w (upd H a ob) h' a ob) :
    Inv X pins σ (upd H a ob) { s with heap:=h',toks:=t' }:=
  I.write (x:=a) (e:=a) mu (.inl rfl) (λ b q hb z=>(hs.2 b hb).trans z) he new
end
section
variable{X:Cx}{pins:List (Addr × Obj)}{σ:St}{H:Hp}{s:Shared}{a:Addr}{kvs:List (Key × V)}{k:Key}{u:Value}{A:Around}{E:Value->Shared->Prop}
end
section
variable{X:Cx}{o i e value:Expr}{pos pos' tpos:Pos}{td ty tv:TE}
end
section
variable{X:Cx}{pos:Pos}
end
section
variable{X:Cx}{pins:List (Addr × Obj)}{σ:St}{H:Hp}{s:Shared}{a:Addr}{y d:V}{u r:Value}{o:Option V}{A:Around}{E:Value->Shared->Prop}
end
section
variable{X:Cx}{o e f:Expr}{apos cpos:Pos}{td ty tx:TE}
end
section
variable{X:Cx}{pins:List (Addr × Obj)}{σ:St}{H:Hp}{s:Shared}{a:Addr}{kvs:List (Key × V)}{A:Around}{E:Value->Shared->Prop}
end
section
variable{X:Cx}{pins:List (Addr × Obj)}{σ:St}{H:Hp}{s:Shared}{a:Addr}{y:V}{u:Value}{A:Around}{E:Value->Shared->Prop}
end
end L2
namespace L2
open PySem PySem.Spec PyProof.Rows
section
variable{X:Cx}
end
section
variable{κ:Type}[DecidableEq κ]
end
end L2
namespace L2
open PySem PySem.Spec PyProof.Rows
noncomputable def BN(cells:List (Str × Addr)):List (Str × NameKind)->List (Str × Addr)->List (Str × Addr)
  | [],acc=>acc
  | (n,k) :: r,acc=>if k == .free then BN cells r ((n,(cells.lookup n).getD 0) :: acc)else BN cells r acc
theorem GF{env:Env}(f:Str × NameKind->List (Str × Addr)->Sem (ForInStep (List (Str × Addr))))
    (hf:∀ name kind cs,f (name,kind) cs=if(kind == NameKind.free)=true then(do let a <- cellOf env name;pure (ForInStep.yield ((name,a) :: cs)))else pure (ForInStep.yield cs)) :
    ∀ (names:List (Str × NameKind)) (acc:List (Str × Addr)),(∀ y ∈ names,y.2=.free->∃ c,env.cells.lookup y.1=some c)->forIn names acc f=pure (BN env.cells names acc)
  | [],acc,_=>rfl
  | (n,k) :: r,acc,hy=>by
    rw[List.forIn_cons,hf]
    have ih:=λ a=>GF f hf r a λ z hz=>hy z (List.mem_cons_of_mem _ hz)
    by_cases hk:(k == NameKind.free)=true
    . obtain⟨c,hc⟩:=hy (n,k) List.mem_cons_self (by simpa using hk)
      have hc:env.cells.lookup n=some c:=hc
      have e1:cellOf env n=pure c:=by unfold cellOf;rw[hc]
      rw[if_pos hk,e1]
      show forIn r ((n,c) :: acc) f=_
      have e2:BN env.cells ((n,k) :: r) acc=BN env.cells r ((n,c) :: acc):=by
        rw[BN,if_pos hk,hc]
        rfl
      rw[ih,e2]
    . rw[if_neg hk]
      show forIn r acc f=_
      have e2:BN env.cells ((n,k) :: r) acc=BN env.cells r acc:=by
        rw[BN,if_neg hk]
      rw[ih,e2]
theorem DE{scope:Scope}{env:Env}(h:∀ y ∈ scope.names,y.2=.free->∃ c,env.cells.lookup y.1=some c):closureFor scope env=pure (BN env.cells scope.names []):=by
  unfold closureFor
  dsimp only
  rw[GF _ (λ name kind cs=>rfl) scope.names [] h]
  rfl
theorem Ey{cells:List (Str × Addr)}:∀ {names:List (Str × NameKind)} {acc:List (Str × Addr)},(∀ y ∈ names,y.2=.free->∃ c,cells.lookup y.1=some c)->(∀ x c,acc.lookup x=some c->cells.lookup x=some c) ->
    ∀ x c,(BN cells names acc).lookup x=some c->cells.lookup x=some c
  | [],_,_,ha,x,c,e=>ha x c e
  | (n,k) :: r,acc,hy,ha,x,c,e=>by
    unfold BN at e
    have hr:∀ y ∈ r,y.2=.free->∃ c,cells.lookup y.1=some c:=λ z hz=>hy z (List.mem_cons_of_mem _ hz)
    by_cases hk:(k == NameKind.free)=true
    . rw[if_pos hk]at e
      refine Ey hr (λ z d q=>?_) x c e
      obtain⟨c0,hc0⟩:=hy (n,k) List.mem_cons_self (by simpa using hk)
      have hc0:cells.lookup n=some c0:=hc0
      rw[List.lookup_cons]at q
      by_cases hz:(z == n)=true
      . rw[hz,hc0]at q
        have:z=n:=by simpa using hz
        subst this
        simpa [hc0]using q
      . have hz':(z == n)=false:=by simpa using hz
        rw[hz']at q
        exact ha z d q
    . rw[if_neg hk]at e
      exact Ey hr ha x c e
theorem Ez{cells:List (Str × Addr)}:∀ {names:List (Str × NameKind)} {acc:List (Str × Addr)} {x:Str},((acc.lookup x).isSome=true ∨ (x,NameKind.free) ∈ names)->((BN cells names acc).lookup x).isSome=true
  | [],_,_,h=>h.elim id λ z=>by cases z
  | (n,k) :: r,acc,x,h=>by
    unfold BN
    by_cases hk:(k == NameKind.free)=true
    . rw[if_pos hk]
      refine Ez ?_
      by_cases hx:(x == n)=true
      . exact .inl (by rw[List.lookup_cons,hx];rfl)
      . have hx':(x == n)=false:=by simpa using hx
        rcases h with h|h
        . exact .inl (by rw[List.lookup_cons,hx'];exact h)
        . rcases List.mem_cons.mp h with h|h
          . cases h;simp at hx
          . exact .inr h
    . rw[if_neg hk]
      refine Ez ?_
      rcases h with h|h
      . exact .inl h
      . rcases List.mem_cons.mp h with h|h
        . cases h;simp at hk
        . exact .inr h
noncomputable def DL:Nat->List (Str × NameKind)->List (Str × Addr)
  | _,[]=>[]
  | n,(x,k) :: r=>if k == .cell then DL (n + 1) r ++ [(x,n)]else DL n r
theorem CP:∀ (names:List (Str × NameKind)) (n:Nat) (acc:List (Str × Addr)),cellsFrom n names acc=DL n names ++ acc
  | [],_,_=>rfl
  | (x,k) :: r,n,acc=>by
    unfold cellsFrom DL
    by_cases hk:(k == NameKind.cell)=true
    . rw[if_pos hk,if_pos hk,CP r (n + 1),List.append_assoc];rfl
    . rw[if_neg hk,if_neg hk,CP r n]
theorem IW:∀ (names:List (Str × NameKind)) (n:Nat) (x:Str) (c:Addr),(DL n names).lookup x=some c->(x,NameKind.cell) ∈ names
  | [],_,_,_,e=>by cases e
  | (y,k) :: r,n,x,c,e=>by
    unfold DL at e
    by_cases hk:(k == NameKind.cell)=true
    . rw[if_pos hk]at e
      have hk':k=.cell:=by simpa using hk
      rw[List.lookup_append]at e
      cases q:(DL (n + 1) r).lookup x with
      | some d=>exact List.mem_cons_of_mem _ (IW r _ x d q)
      | none=>
        rw[q]at e
        simp only[Option.none_or,List.lookup_cons]at e
        by_cases hx:(x == y)=true
        . have:x=y:=by simpa using hx
          subst this;subst hk'
          exact List.mem_cons_self
        . have hx':(x == y)=false:=by simpa using hx
          rw[hx']at e;cases e
    . rw[if_neg hk]at e
      exact List.mem_cons_of_mem _ (IW r n x c e)
theorem IX:∀ (names:List (Str × NameKind)) (n:Nat) (x:Str),(x,NameKind.cell) ∈ names->∃ c,(DL n names).lookup x=some c
  | [],_,_,h=>by cases h
  | (y,k) :: r,n,x,h=>by
    unfold DL
    by_cases hk:(k == NameKind.cell)=true
    . rw[if_pos hk,List.lookup_append]
      rcases List.mem_cons.mp h with h|h
      . obtain⟨rfl,rfl⟩:=Prod.mk.inj h
        cases q:(DL (n + 1) r).lookup x with
        | some d=>exact⟨d,rfl⟩
        | none=>exact⟨n,by simp[List.lookup_cons]⟩
      . obtain⟨c,hc⟩:=IX r (n + 1) x h
        exact⟨c,by rw[hc];rfl⟩
    . rw[if_neg hk]
      rcases List.mem_cons.mp h with h|h
      . cases h;simp at hk
      . exact IX r n x h
noncomputable def MU(scope:Scope)(C:Addr)(env:Env):Env:=
  { scope:=relabel scope env,locals:=C,globals:=env.globals,cells:=cellsFrom (C + 1) scope.names (BN env.cells scope.names []),qual:=env.qual,func:=none,code:=env.code,frame:=env.frame,builtins:=env.builtins }
theorem Hv{M:Model}{A:Around}{E:Value->Shared->Prop}{s:Shared}{scope:Scope}{cl:List (Str × Addr)}{env:Env}{Q:Env->Shared->Prop}
    (hQ:∀ h',(∀ b o,s.heap.get? b=some o->h'.get? b=some o)->h'.Ns s.heap.objs.size (λ _=>none)->(∀ x c,(DL (s.heap.objs.size + 1) scope.names).lookup x=some c->h'.IsCell c none/\s.heap.objs.size < c) ->
      ((DL (s.heap.objs.size + 1) scope.names).Pairwise λ x y=>x.2 ≠ y.2) ->
      Q { scope:=scope,locals:=s.heap.objs.size,globals:=env.globals,cells:=cellsFrom (s.heap.objs.size + 1) scope.names cl,qual:=env.qual,func:=none,code:=env.code,frame:=env.frame,builtins:=env.builtins } { s with heap:=h' }) :
    wpAny M A (newFunctionEnv scope env.globals cl [] env.qual none .none (some env)) Q E s:=by
  simp only[newFunctionEnv,Option.isSome_some,if_true]
  refine wpAny_bind (wpAny_alloc ?_)
  refine wpAny_bind (wpAny_layCells _ (λ name kind cells=>by cases hkc:kind == NameKind.cell <;> simp[hkc]) _ _ _ _ ?_)
  have ok:=cellsFrom_ok scope.names (s.heap.push { cls:=.type "dict",data:=.dict #[] }) (s.heap.objs.size + 1) [] ⟨λ _ _ hm=>(nomatch hm),List.Pairwise.nil⟩ (by rw[Heap.size_push];exact Nat.le_refl _)
  rw[Heap.size_push,CP,List.append_nil]at ok
  rw[show({ s with heap:=s.heap.push { cls:=.type "dict",data:=.dict #[] } }:Shared).heap.objs.size=s.heap.objs.size + 1 from Heap.size_push ..]
  refine wpAny_bind (wpAny_pure (wpAny_pure ?_))
  exact hQ _ (λ b o e=>pushCells_keeps _ _ b o (Heap.get?_push_of_some _ e)) ((Heap.Ns.new s.heap (.type "dict")).keeps (pushCells_keeps _ _)) (λ x c hc=>⟨(ok.empty x c (mem_of_lookup hc)).1,(ok.empty x c (mem_of_lookup hc)).2⟩) ok.apart
end L2
namespace L2
open PySem PySem.Spec PyProof.Rows
theorem KD:∀ {names:List (Str × NameKind)} {x:Str} {k k':NameKind},(names.map (·.1)).Nodup->(x,k) ∈ names->(x,k') ∈ names->k=k'
  | [],_,_,_,_,h,_=>by cases h
  | (y,q) :: r,x,k,k',nd,h,h'=>by
    have nd:(y :: r.map (·.1)).Nodup:=nd
    obtain⟨n1,n2⟩:=List.nodup_cons.mp nd
    have out:∀ {z:NameKind},(y,z) ∈ r->False:=λ m=>n1 (List.mem_map.mpr ⟨_,m,rfl⟩)
    rcases List.mem_cons.mp h with e|e <;> rcases List.mem_cons.mp h' with e'|e'
    . cases e;cases e';rfl
    . cases e;exact(out e').elim
    . cases e';exact(out e).elim
    . exact KD n2 e e'
theorem Gk{env:Env}{x:Str}:∀ {names:List (Str × NameKind)},names.lookup x=some .free ->
    (names.map λ(n,k)=>if(k == NameKind.free && env.scope.kind == .function && env.kindOf n == some .cell)then(n,NameKind.cell)else(n,k)).lookup x=some .cell ∨
    (names.map λ(n,k)=>if(k == NameKind.free && env.scope.kind == .function && env.kindOf n == some .cell)then(n,NameKind.cell)else(n,k)).lookup x=some .free
  | [],h=>by simp at h
  | (n,k) :: r,h=>by
    have ih:=@Gk env x r
    show List.lookup x ((if(k == NameKind.free && env.scope.kind == .function && env.kindOf n == some .cell)=true then(n,NameKind.cell)else(n,k)) :: _)=_ ∨ List.lookup x ((if(k == NameKind.free && env.scope.kind == .function && env.kindOf n == some .cell)=true then(n,NameKind.cell)else(n,k)) :: _)=_
    cases hx:x == n with
    | true=>
      simp only[List.lookup_cons,hx]at h
      cases h
      by_cases hc:(NameKind.free == NameKind.free && env.scope.kind == .function && env.kindOf n == some .cell)=true
      . rw[if_pos hc];exact .inl (by simp only[List.lookup_cons,hx])
      . rw[if_neg hc];exact .inr (by simp only[List.lookup_cons,hx])
    | false=>
      simp only[List.lookup_cons,hx]at h
      by_cases hc:(k == NameKind.free && env.scope.kind == .function && env.kindOf n == some .cell)=true
      . rw[if_pos hc];simp only[List.lookup_cons,hx];exact ih h
      . rw[if_neg hc];simp only[List.lookup_cons,hx];exact ih h
theorem HF{env:Env}{x:Str}:∀ {names:List (Str × NameKind)},
    ((names.map λ(n,k)=>if(k == NameKind.free && env.scope.kind == .function && env.kindOf n == some .cell)then(n,NameKind.cell)else(n,k)).lookup x=some .cell ∨
    (names.map λ(n,k)=>if(k == NameKind.free && env.scope.kind == .function && env.kindOf n == some .cell)then(n,NameKind.cell)else(n,k)).lookup x=some .free) ->
    names.lookup x=some .cell ∨ names.lookup x=some .free
  | [],h=>by simp at h
  | (n,k) :: r,h=>by
    have ih:=@HF env x r
    have h:List.lookup x ((if(k == NameKind.free && env.scope.kind == .function && env.kindOf n == some .cell)=true then(n,NameKind.cell)else(n,k)) :: _)=_ ∨ List.lookup x ((if(k == NameKind.free && env.scope.kind == .function && env.kindOf n == some .cell)=true then(n,NameKind.cell)else(n,k)) :: _)=_:=h
    cases hx:x == n with
    | true=>
      by_cases hc:(k == NameKind.free && env.scope.kind == .function && env.kindOf n == some .cell)=true
      . have hk:k=.free:=by
          have:=(Bool.and_eq_true _ _ ▸ (Bool.and_eq_true _ _ ▸ hc).1:(k == NameKind.free)=true/\_).1
          simpa using this
        exact .inr (by simp only[List.lookup_cons,hx,hk])
      . rw[if_neg hc]at h
        simp only[List.lookup_cons,hx]at h ⊢
        exact h
    | false=>
      simp only[List.lookup_cons,hx]
      refine ih ?_
      by_cases hc:(k == NameKind.free && env.scope.kind == .function && env.kindOf n == some .cell)=true
      . rw[if_pos hc]at h;simp only[List.lookup_cons,hx]at h;exact h
      . rw[if_neg hc]at h;simp only[List.lookup_cons,hx]at h;exact h
noncomputable def cCx(X:Cx)(N':List Str)(scope:Scope)(s:Shared)(H:Hp)(ex:List Addr):Cx:=
  { X with N:=N',s₀:=s,H₀:=H,env:=MU scope s.heap.objs.size X.env,outer:=X.stack,ex:=ex,fn:=λ x=>decide ((x,NameKind.cell) ∈ scope.names),pn:=[],xe:=λ _ _=>False }
structure CSc(X:Cx)(scope:Scope)(fr:List Str)(ix:List Nat):Prop where
  kind:scope.kind=.function
  nd:(scope.names.map (·.1)).Nodup
  free:(scope.names.all λ y=>y.2 != .free || X.env.kindOf y.1 == some .cell || X.env.kindOf y.1 == some .free)=true
  frs:(fr.all λ x=>scope.names.lookup x == some .free)=true
  ixs:fr.map some=ix.map λ i=>X.N[i]?
  loc:(scope.names.all λ y=>y.2 != .local || scope.names.lookup y.1 == some .local)=true
noncomputable def FU(n:Nat)(ix:List Nat)(σ:St):St:=List.replicate n none ++ ix.map λ i=>(σ[i]?).join
section
variable{X:Cx}{scope:Scope}{fr loc:List Str}{ix:List Nat}{pins:List (Addr × Obj)}{σ:St}{H:Hp}{s:Shared}
theorem CSc.outer(S:CSc X scope fr ix){y:Str × NameKind}(hy:y ∈ scope.names)(e:y.2=.free):X.env.kindOf y.1=some .cell ∨ X.env.kindOf y.1=some .free:=by
  have h:=List.all_eq_true.mp S.free y hy
  rw[e]at h
  simpa using h
theorem CSc.clos(S:CSc X scope fr ix)(ok:X.Ok):∀ y ∈ scope.names,y.2=.free->∃ c,X.env.cells.lookup y.1=some c:=λ y hy e=>ok.has y.1 (S.outer hy e)
theorem Dm(S:CSc X scope fr ix)(ok:X.Ok){n:Nat}{x:Str}{c:Addr}(e:(cellsFrom n scope.names (BN X.env.cells scope.names [])).lookup x=some c) :
    (DL n scope.names).lookup x=some c ∨ X.env.cells.lookup x=some c:=by
  rw[CP,List.lookup_append]at e
  cases q:(DL n scope.names).lookup x with
  | some d=>rw[q]at e;exact .inl e
  | none=>
    rw[q]at e
    exact .inr (Ey (S.clos ok) (λ _ _ z=>by simp at z) x c e)
theorem GX(S:CSc X scope fr ix)(I:Inv X pins σ H s){ex:List Addr}(hex:∀ b ∈ ex,C6 X pins H b){h':Heap}(hk:∀ b o,s.heap.get? b=some o->h'.get? b=some o)(hn:h'.Ns s.heap.objs.size λ _=>none)
    (ho:∀ x c,(DL (s.heap.objs.size + 1) scope.names).lookup x=some c->h'.IsCell c none/\s.heap.objs.size < c) (ha:(DL (s.heap.objs.size + 1) scope.names).Pairwise λ x y=>x.2 ≠ y.2) (hlt:∀ b ∈ ex,b < s.heap.objs.size) :
    Inv (cCx X (loc ++ fr) scope s H ex) [] (FU loc.length ix σ) H { s with heap:=h' }:=by
  have old:∀ x c,X.env.cells.lookup x=some c->c < s.heap.objs.size:=λ x c e=>let ⟨v,z⟩:=I.cell x c e;z.lt
  have lenix:fr.length=ix.length:=by simpa using congrArg List.length S.ixs
  refine⟨⟨I.ok.mod,?_,I.ok.glob,I.ok.blt,Nat.le_refl _,?_,?_,?_,I.ok.hd,I.ok.frames,.inl rfl,?_,I.bs,Nat.le_trans I.ok.bsz I.sz,?_,?_,I.stack,I.stkFree⟩,rfl,I.bare,Un.kept hk,⟨_,hn,?_⟩,?_,I.hok.fresh (Nat.le_refl _),?_,?_,I.hok.kept hk,?_⟩
  . exact S.kind
  . intro x y c e1 e2
    rcases Dm S I.ok e1 with a|a <;> rcases Dm S I.ok e2 with b|b
    . exact name_of_addr ha (PySem.mem_of_lookup a) (PySem.mem_of_lookup b)
    . exact absurd (Nat.lt_trans (ho x c a).2 (old y c b)) (Nat.lt_irrefl _)
    . exact absurd (Nat.lt_trans (ho y c b).2 (old x c a)) (Nat.lt_irrefl _)
    . exact I.ok.inj x y c a b
  . intro x hx
    rcases HF hx with e|e
    . exact Option.isSome_iff_exists.mp (PySem.W.cellsFrom_some _ _ _ (.inl e))
    . exact Option.isSome_iff_exists.mp (PySem.W.cellsFrom_some _ _ _ (.inr (Ez (.inr (PySem.mem_of_lookup e)))))
  . intro x c hf e
    have hf:(x,NameKind.cell) ∈ scope.names:=of_decide_eq_true hf
    obtain⟨d,hd⟩:=IX scope.names (s.heap.objs.size + 1) x hf
    have e':(cellsFrom (s.heap.objs.size + 1) scope.names (BN X.env.cells scope.names [])).lookup x=some c:=e
    rw[CP,List.lookup_append,hd]at e'
    cases e'
    exact Nat.le_of_lt (ho x _ hd).2
  . intro b hb
    refine⟨Nat.ne_of_lt (hlt b hb),λ x c e z=>?_⟩
    rcases Dm S I.ok e with a|a
    . exact absurd (Nat.lt_trans (ho x c a).2 (by rw[z];exact hlt b hb)) (Nat.lt_irrefl _)
    . exact(hex b hb).2.2.2.2.1 x c a z
  . intro b o e hb
    rcases(hex b hb).2.2.2.1 with z|z
    . exact I.ok.noex b o e z
    . exact absurd (Nat.lt_of_lt_of_le (Heap.lt_size (I.ok.bs b o e).1) z) (Nat.lt_irrefl _)
  . intro b hb hf
    rcases List.mem_cons.mp (I.stkSub b hf)with z|z
    . exact(hex b hb).2.1 z
    . exact(hex b hb).2.2.1 z
  . intro i x v e1 e2 e3
    have e1:(loc ++ fr)[i]? = some x:=e1
    unfold FU at e2
    by_cases hi:i < loc.length
    . rw[List.getElem?_append_left (by simpa using hi),List.getElem?_replicate]at e2
      split at e2 <;> cases e2
    . have hi':loc.length <= i:=Nat.not_lt.mp hi
      rw[List.getElem?_append_right (by simpa using hi')]at e2
      rw[List.getElem?_append_right hi']at e1
      rw[List.length_replicate,List.getElem?_map]at e2
      generalize hj:i - loc.length=j at e1 e2
      have e4:(fr.map some)[j]? = some (some x):=by rw[List.getElem?_map,e1];rfl
      rw[S.ixs,List.getElem?_map]at e4
      cases q:ix[j]? with
      | none=>rw[q]at e2;cases e2
      | some k=>
        rw[q]at e2 e4
        have e2:(σ[k]?).join=some v:=Option.some.inj e2
        have e4:X.N[k]? = some x:=Option.some.inj e4
        have e5:σ[k]? = some (some v):=by
          cases w:σ[k]? with
          | none=>rw[w]at e2;cases e2
          | some z=>rw[w]at e2;simpa using e2
        have hfx:=List.all_eq_true.mp S.frs x (List.mem_of_getElem? e1)
        have hfx:scope.names.lookup x=some .free:=by simpa using hfx
        have hmem:=PySem.mem_of_lookup hfx
        have hout:=S.outer hmem rfl
        obtain⟨m,hm,hl⟩:=I.loc
        obtain⟨u,r,l⟩:=hl k x v e4 e5 (.inr hout)
        refine⟨u,r,.inr ⟨Gk hfx,?_⟩⟩
        rcases l with⟨kk,_⟩|⟨kk,c,ec,z⟩
        . rcases hout with w|w
          . rw[kk]at w;cases w
          . rw[kk]at w;cases w
        . have own0:(DL (s.heap.objs.size + 1) scope.names).lookup x=none:=by
            cases w:(DL (s.heap.objs.size + 1) scope.names).lookup x with
            | none=>rfl
            | some d=>exact absurd (KD S.nd (IW _ _ _ _ w) hmem) (by decide)
          have hc:(BN X.env.cells scope.names []).lookup x=some c:=by
            obtain⟨d,hd⟩:=Option.isSome_iff_exists.mp (Ez (cells:=X.env.cells) (acc:=[]) (.inr hmem))
            have:=Ey (S.clos I.ok) (λ _ _ z=>by simp at z) x d hd
            rw[ec]at this;cases this
            exact hd
          refine⟨c,?_,z.keeps hk⟩
          show(cellsFrom (s.heap.objs.size + 1) scope.names (BN X.env.cells scope.names [])).lookup x=some c
          rw[CP,List.lookup_append,own0,hc]
          rfl
  . intro x c e
    rcases Dm S I.ok e with a|a
    . exact⟨_,(ho x c a).1⟩
    . obtain⟨v,z⟩:=I.cell x c a
      exact⟨v,z.keeps hk⟩
  . intro x c e
    rcases Dm S I.ok e with a|a
    . exact I.hok.fresh (Nat.le_of_lt (ho x c a).2)
    . exact I.freeC x c a
  . intro p hp
    cases hp
  . unfold FU
    show _=(loc ++ fr).length
    simp[lenix]
end
end L2
namespace L2
open PySem PySem.Spec PyProof.Rows
section
variable{prog:Program}{w:World}{A:Around}{R:Result->Shared->Prop}{s:Shared}
theorem Hh{elt target iter:Expr}{ifs:List Expr}{scope:Scope}{pos:Pos}{it acc:Value}{env:Env}(I:Nat->Shared->Prop)
    (turn:∀ n s,I n s->wpAny (model prog w) A (pyNext it) (λ r s₁=>match r with
      | none=>R (.ok .next) s₁
      | some v=>wpAny (model prog w) A (letOwnedTupleGo target it v) (λ _ s₁=>wpAny (model prog w) A (assign target env v) (λ _ s₂=>
          wpAny (model prog w) A (forIn ifs true λ c r=>if r=true then do let ok <- isTrue c env (eval c env);pure (ForInStep.yield ok)else pure (ForInStep.yield r)) (λ ok s₃=>
            if ok=true then wpAny (model prog w) A (eval elt env) (λ x s₄=>
              wpAny (model prog w) A (call (.builtin "list.append") [acc,x]) (λ _ s₅=>∃ m,m < n/\I m s₅) (λ _ _=>False) s₄) (λ _ _=>False) s₃
            else ∃ m,m < n/\I m s₃) (λ _ _=>False) s₂) (λ _ _=>False) s₁) (λ _ _=>False) s₁) (λ _ _=>False) s)
    (n:Nat) (h:I n s) :
    codeAny (model prog w) A (.compLoop (.ListComp elt [⟨target,iter,ifs,0⟩] scope pos) 0 it acc env) R s:=by
  refine codeAny_loop rfl I (λ n s hI=>?_) n h
  show wpAny _ A ((compTurn (.ListComp elt [⟨target,iter,ifs,0⟩] scope pos) 0 it acc env).onRaise (λ x=>do noteFrame x env;theTreesLotGoes x)) _ _ s
  refine wpAny_noted ?_
  rw[compTurn_list]
  refine wpAny_bind (wpAny_standAt (wpAny_bind (wpAny_mono (turn n s hI) (λ r s₁ h₁=>?_) λ _ _ h'=>h'.elim)))
  cases r with
  | none=>exact wpAny_pure h₁
  | some v=>
    refine wpAny_bind (wpAny_mono h₁ (λ _ s₁ h₁=>?_) λ _ _ h'=>h'.elim)
    refine wpAny_bind (wpAny_mono h₁ (λ _ s₂ h₂=>wpAny_bind (wpAny_mono h₂ (λ ok s₃ h₃=>?_) λ _ _ h'=>h'.elim)) λ _ _ h'=>h'.elim)
    cases ok with
    | false=>exact wpAny_pure ⟨rfl,h₃⟩
    | true=>
      exact wpAny_bind (wpAny_bind (wpAny_mono h₃ (λ x s₄ h₄=>wpAny_bind (wpAny_mono h₄ (λ _ s₅ h₅=>wpAny_pure (wpAny_pure ⟨rfl,h₅⟩)) λ _ _ h'=>h'.elim)) λ _ _ h'=>h'.elim))
end
noncomputable def PF(X:Cx)(ifs:List Expr)(t:TT):Prop:=
  ∀ (pins:List (Addr × Obj)) (s:Shared) (σ:St) (H:Hp) (Q:Bool->Hp->Prop),Inv X pins σ H s->t σ H Q ->
    wpAny (model X.prog X.w) X.A (forIn ifs true λ c r=>if r=true then do let ok <- isTrue c X.env (eval c X.env);pure (ForInStep.yield ok)else pure (ForInStep.yield r)) (TP X pins σ Q) X.xe s
noncomputable def QL:TT:=λ _ H Q=>Q true H
theorem Vr{X:Cx}:PF X [] QL:=λ pins s σ H Q I h=>wpAny_tests_nil ⟨H,I,h⟩
theorem Vq{X:Cx}{c:Expr}{t:TT}(h:PT X c t):PF X [c] t:=λ pins s σ H Q I q=>wpAny_tests_one (h pins s σ H Q I q)
noncomputable def Sq(J:It)(D:Addr)(σ0:St)(H0:Hp)(g:TG)(tf:TT)(te:TE)(Q:VK):Prop:=∃ W:Nat->Nat->St->List V->Hp->Prop,
  (∃ m,W 0 m σ0 [] (upd H0 D (.lst [])))/\∀ i m σ ys H,W i m σ ys H->H D=some (.lst ys) /\
    ((J.stop i H/\Q (.ref D) H) ∨ (J.go i H/\ys.length < sizeLine/\∃ N:St->List V->Hp->Prop,(∀ σ' ys' H',N σ' ys' H'->∃ m',m' < m/\W (i + 1) m' σ' ys' H') /\
      ∀ x H',J.yld i H x H'->g x σ H' λ σ2 H2=>tf σ2 H2 λ b H3=>
        if b=true then te σ2 H3 λ v H4=>H4 D=some (.lst ys)/\N σ2 (ys ++ [v]) (upd H4 D (.lst (ys ++ [v])))
        else N σ2 ys H3))
noncomputable def Iu(n:Nat)(ix:List Nat)(wi:TI)(g:TG)(tf:TT)(te:TE):TE:=λ σ H Q=>wi σ H λ J H1=>∀ D,H1 D=none->Sq J D (FU n ix σ) H1 g tf te Q
section
variable{X:Cx}
theorem MX{pins:List (Addr × Obj)}{σ:St}{H:Hp}{s:Shared}{D:Addr}{ys:List V}{x:V}{u:Value}{Q:Value->Shared->Prop}{E:Value->Shared->Prop}(I:Inv X pins σ H s)(hD:H D=some (.lst ys))(r:RelV x u)(hz:ys.length < sizeLine)
    (h:∀ v s',Inv X pins σ (upd H D (.lst (ys ++ [x]))) s'->Q v s'):wpAny (model X.prog X.w) X.A (call (.builtin "list.append") [.ref D,u]) Q E s:=by
  have I':=I.wish λ _ _=>False
  have q:=Dw (X:=X.wish λ _ _=>False) pins s σ H (.ref D) [x] (.ref D) [u] (λ v H'=>H'=upd H D (.lst (ys ++ [x]))) I' rfl (.cons r .nil) ⟨D,ys,x,rfl,rfl,hD,hz,rfl⟩
  refine wpAny_mono q (λ v s' ⟨v',H',I2,_,e⟩=>?_) λ _ _ z=>False.elim z
  subst e
  exact h v s' I2.unwish
theorem U8{elt tg iter:Expr}{ifs:List Expr}{scope:Scope}{pos:Pos}{loc fr:List Str}{ix:List Nat}{wi:TI}{g:TG}{tf:TT}{te:TE}(hc:X.calm=true)(S:CSc X scope fr ix)(hi:PI X tg iter wi)
    (hg:∀ s H ex,PG (cCx X (loc ++ fr) scope s H ex) tg g) (hf:∀ s H ex,PF (cCx X (loc ++ fr) scope s H ex) ifs tf) (he:∀ s H ex,PE (cCx X (loc ++ fr) scope s H ex) elt te)
    (hs:∀ x,foldedSetIterable iter X.env x=pure x:=by intro _;rfl):PE X (.ListComp elt [⟨tg,iter,ifs,0⟩] scope pos) (Iu loc.length ix wi g tf te):=by
  intro pins s σ H Q I h
  rw[eval_ListComp]
  have hnames:∀ y ∈ scope.names,y.2=.local->scope.names.lookup y.1=some .local:=λ y hy e=>by
    have:=List.all_eq_true.mp S.loc y hy
    rw[e]at this
    simpa using this
  refine wpAny_comprehension_free (use:=none) rfl hs (DE (S.clos I.ok)) S.kind hnames (thn (hi pins s σ H _ I h) λ v s1 h1=>thn h1 λ itv s2 h2=>?_)
  obtain⟨it,fp,tn,J,H2,rfl,I2,T,st2,f2,hW⟩:=h2
  refine wpAny_newObj_type ?_
  have fresh2:H2 s2.heap.objs.size=none:=I2.hok.fresh (Nat.le_refl _)
  have I3:=I2.lnew (its:=[]) (ys:=[]) (t':=s2.toks) .nil (Nat.zero_le _)
  obtain⟨W,⟨m0,w0⟩,turn⟩:=hW s2.heap.objs.size fresh2
  have lt2:∀ b ∈ fp,b < s2.heap.objs.size:=λ b hb=>let ⟨o,e,_⟩:=T.obj 0 _ st2 b hb;Heap.lt_size e
  have f3:∀ b ∈ fp,C6 X pins (upd H2 s2.heap.objs.size (.lst [])) b:=λ b hb=>⟨by rw[AR (Nat.ne_of_lt (lt2 b hb))];exact(f2 b hb).1,(f2 b hb).2⟩
  have lt3:∀ b ∈ fp,b < (s2.heap.push { cls:=.type "list",data:=.seq ([]:List Value).toArray }).objs.size:=λ b hb=>by rw[Heap.size_push];exact Nat.lt_succ_of_lt (lt2 b hb)
  generalize hs3:({ s2 with heap:=s2.heap.push { cls:=.type "list",data:=.seq ([]:List Value).toArray } }:Shared)=s3 at *
  have lt3:∀ b ∈ fp,b < s3.heap.objs.size:=by rw[<- hs3];exact lt3
  have st3:tn 0 s3.heap:=T.keep _ _ _ st2 λ b hb o e=>by rw[<- hs3];exact Heap.get?_push_of_some _ e
  refine Hv λ h' hk hn ho ha=>?_
  have I4:=GX (loc:=loc) S I3 f3 hk hn ho ha lt3
  have fpX:∀ {H':Hp},(∀ b ∈ fp,H' b=none)->∀ b ∈ fp,C6 (cCx X (loc ++ fr) scope s3 (upd H2 s2.heap.objs.size (.lst [])) fp) [] H' b:=λ hn b hb=>
    ⟨hn b hb,(I4.ok.exf b hb).1,I4.ok.exfs b hb,.inl hb,(I4.ok.exf b hb).2,λ p hp=>by cases hp⟩
  have loop:codeAny (model X.prog X.w) X.A (.compLoop (.ListComp elt [⟨tg,iter,ifs,0⟩] scope pos) 0 (.ref it) (.ref s2.heap.objs.size) (MU scope s3.heap.objs.size X.env))
      (compPost (model X.prog X.w) X.A X.xe none (EP X pins σ Q) (.ref s2.heap.objs.size) s3.heap.objs.size) { s3 with heap:=h' }:=by
    refine Hh (λ n s'=>∃ i σ' ys H',Inv (cCx X (loc ++ fr) scope s3 (upd H2 s2.heap.objs.size (.lst [])) fp) [] σ' H' s'/\tn i s'.heap/\(∀ b ∈ fp,H' b=none)/\W i n σ' ys H') ?_ m0
      ⟨0,_,[],_,I4,T.keep _ _ _ st3 λ b hb o e=>hk b o e,λ b hb=>(f3 b hb).1,w0⟩
    rintro n s5 ⟨i,σ5,ys,H5,I5,st5,fr5,w5⟩
    obtain⟨hD,w5⟩:=turn i n σ5 ys H5 w5
    rcases w5 with⟨stop,qn⟩|⟨go,hz,N,hN,step⟩
    . refine thn (T.done (cCx X (loc ++ fr) scope s3 (upd H2 s2.heap.objs.size (.lst [])) fp) rfl rfl rfl hc i [] s5 σ5 H5 _ I5 (fpX fr5) st5 stop) λ r s6 ⟨hr,I6⟩=>?_
      subst hr
      obtain⟨m,hm,_⟩:=I6.loc
      refine⟨m,hm,λ h'' hs=>?_⟩
      have neC:∀ b o,s3.heap.get? b=some o->b ≠ s3.heap.objs.size:=λ b o e=>Nat.ne_of_lt (Heap.lt_size e)
      have un:=I6.base
      refine⟨.ref s2.heap.objs.size,H5,I3.call' (s':={ s6 with heap:=h'' }) (ch:=fp) I6.os ⟨λ b o e n hb hx=>?_,λ b o e n hb hx=>?_,un.free,λ b o e hx=>?_,un.tups,un.frzs,un.tbls⟩ ?_ I6.bare ?_,rfl,qn⟩
      . exact(hs.2 b (neC b o e)).trans (un.keep b o e n hb hx)
      . obtain⟨sl,q⟩:=un.slot b o e n hb hx
        exact⟨sl,(hs.2 b (neC b o e)).trans q⟩
      . obtain⟨o',q⟩:=un.there b o e hx
        exact⟨o',(hs.2 b (neC b o e)).trans q⟩
      . intro b ob e
        have hfree:H5 s3.heap.objs.size=none:=I6.free
        refine(I6.hok b ob e).stay (λ c w' hc q=>(hs.2 c ?_).trans q) (λ _ q=>q) λ _ _ q=>q
        intro z
        rcases hc with hc|hc
        . rw[<- hc,z,hfree]at e;cases e
        . rw[z,hfree]at hc;cases hc
      . intro b hb
        obtain⟨_,a2,_,a4,a5,a6⟩:=f3 b hb
        exact⟨a4,a2,a5,a6⟩
    . refine thn (T.item (cCx X (loc ++ fr) scope s3 (upd H2 s2.heap.objs.size (.lst [])) fp) rfl rfl rfl hc i [] s5 σ5 H5 _ I5 (fpX fr5) st5 go) λ r s6 ⟨u,hr,h6⟩=>?_
      subst hr
      refine thn h6 λ _ s7 ⟨x,H7,I7,r7,y7,st7,fr7⟩=>?_
      have I7':=I7.pinned (fpX fr7) (T.obj _ _ st7)
      have keepI:∀ {σ8:St} {H8:Hp} {s8:Shared},Inv (cCx X (loc ++ fr) scope s3 (upd H2 s2.heap.objs.size (.lst [])) fp) ([] ++ E5 fp s7.heap) σ8 H8 s8->tn (i + 1) s8.heap/\∀ b ∈ fp,H8 b=none:=λ {σ8 H8 s8} I8=>by
        refine⟨T.keep _ _ _ st7 λ b hb o e=>(I8.pin (b,o) (List.mem_append_right _ (List.mem_append_right _ (BQ hb e)))).1,λ b hb=>?_⟩
        obtain⟨o,e,d⟩:=T.obj _ _ st7 b hb
        exact(I8.pin (b,o) (List.mem_append_right _ (List.mem_append_right _ (BQ hb e)))).2.1
      refine thn (hg s3 (upd H2 s2.heap.objs.size (.lst [])) fp _ s7 σ5 H7 x u _ I7' r7 (step x H7 y7)) λ _ s8 ⟨σ8,H8,I8,q8⟩=>?_
      refine thn (hf s3 (upd H2 s2.heap.objs.size (.lst [])) fp _ s8 σ8 H8 _ I8 q8) λ b s9 ⟨H9,I9,q9⟩=>?_
      cases b with
      | false=>
        rw[if_neg Bool.false_ne_true]at q9 ⊢
        obtain⟨m',hm,w9⟩:=hN _ _ _ q9
        exact⟨m',hm,i + 1,σ8,ys,H9,I9.unpinned,(keepI I9).1,(keepI I9).2,w9⟩
      | true=>
        rw[if_pos rfl]at q9 ⊢
        refine thn (he s3 (upd H2 s2.heap.objs.size (.lst [])) fp _ s9 σ8 H9 _ I9 q9) λ e10 s10 ⟨v10,H10,I10,r10,hD10,n10⟩=>?_
        obtain⟨m',hm,w10⟩:=hN _ _ _ n10
        refine MX (X:=cCx X (loc ++ fr) scope s3 (upd H2 s2.heap.objs.size (.lst [])) fp) I10 hD10 r10 hz λ _ s11 I11=>?_
        exact⟨m',hm,i + 1,σ8,_,_,I11.unpinned,(keepI I11).1,(keepI I11).2,w10⟩
  exact codeAny_compStart_list loop (T.self X.A 0 _ _ _ (T.keep _ _ _ st3 λ b hb o e=>hk b o e) loop)
end
end L2
namespace L2
open PySem PySem.Spec PyProof.Rows
section
variable{X:Cx}
theorem OG{elt tg iter:Expr}{ifs:List Expr}{scope:Scope}{pos:Pos}{loc fr:List Str}{ix:List Nat}{g:TG}{tf:TT}{te:TE}{pins:List (Addr × Obj)}{σ:St}{Q:VK}{it:Addr}{fp:List Addr}{tn:Nat->Heap->Prop}{J:It}{H2:Hp}{s2:Shared}{E:Value->Shared->Prop}
    {RR:Value->Addr->Result->Shared->Prop} (hc:X.calm=true) (S:CSc X scope fr ix)
    (hg:∀ s H ex,PG (cCx X (loc ++ fr) scope s H ex) tg g) (hf:∀ s H ex,PF (cCx X (loc ++ fr) scope s H ex) ifs tf) (he:∀ s H ex,PE (cCx X (loc ++ fr) scope s H ex) elt te)
    (I2:Inv X pins σ H2 s2) (T:Turn X.prog X.w X.K tg J fp it tn) (st2:tn 0 s2.heap) (f2:∀ b ∈ fp,C6 X pins H2 b) (hW:∀ D,H2 D=none->Sq J D (FU loc.length ix σ) H2 g tf te Q)
    (hfin:∀ (s3 s6:Shared) (H5:Hp) (σ5:St) (D:Addr),Inv X pins σ (upd H2 D (.lst [])) s3->Inv (cCx X (loc ++ fr) scope s3 (upd H2 D (.lst [])) fp) [] σ5 H5 s6->(∀ b ∈ fp,C6 X pins (upd H2 D (.lst [])) b)->Q (.ref D) H5->RR (.ref D) s3.heap.objs.size (.ok .next) s6) :
    wpAny (model X.prog X.w) X.A (newList []) (λ acc s₃=>wpAny (model X.prog X.w) X.A (newFunctionEnv scope X.env.globals (BN X.env.cells scope.names []) [] X.env.qual none .none (some X.env)) (λ cenv s₄=>
      codeAny (model X.prog X.w) X.A (.compStart (.ListComp elt [⟨tg,iter,ifs,0⟩] scope pos) 0 (.ref it) acc { cenv with scope:=relabel scope X.env }) (RR acc cenv.locals) s₄) E s₃) E s2:=by
  refine wpAny_newObj_type ?_
  have fresh2:H2 s2.heap.objs.size=none:=I2.hok.fresh (Nat.le_refl _)
  have I3:=I2.lnew (its:=[]) (ys:=[]) (t':=s2.toks) .nil (Nat.zero_le _)
  obtain⟨W,⟨m0,w0⟩,turn⟩:=hW s2.heap.objs.size fresh2
  have lt2:∀ b ∈ fp,b < s2.heap.objs.size:=λ b hb=>let ⟨o,e,_⟩:=T.obj 0 _ st2 b hb;Heap.lt_size e
  have f3:∀ b ∈ fp,C6 X pins (upd H2 s2.heap.objs.size (.lst [])) b:=λ b hb=>⟨by rw[AR (Nat.ne_of_lt (lt2 b hb))];exact(f2 b hb).1,(f2 b hb).2⟩
  have lt3:∀ b ∈ fp,b < (s2.heap.push { cls:=.type "list",data:=.seq ([]:List Value).toArray }).objs.size:=λ b hb=>by rw[Heap.size_push];exact Nat.lt_succ_of_lt (lt2 b hb)
  generalize hs3:({ s2 with heap:=s2.heap.push { cls:=.type "list",data:=.seq ([]:List Value).toArray } }:Shared)=s3 at *
  have lt3:∀ b ∈ fp,b < s3.heap.objs.size:=by rw[<- hs3];exact lt3
  have st3:tn 0 s3.heap:=T.keep _ _ _ st2 λ b hb o e=>by rw[<- hs3];exact Heap.get?_push_of_some _ e
  refine Hv λ h' hk hn ho ha=>?_
  have I4:=GX (loc:=loc) S I3 f3 hk hn ho ha lt3
  have fpX:∀ {H':Hp},(∀ b ∈ fp,H' b=none)->∀ b ∈ fp,C6 (cCx X (loc ++ fr) scope s3 (upd H2 s2.heap.objs.size (.lst [])) fp) [] H' b:=λ hn b hb=>
    ⟨hn b hb,(I4.ok.exf b hb).1,I4.ok.exfs b hb,.inl hb,(I4.ok.exf b hb).2,λ p hp=>by cases hp⟩
  have loop:codeAny (model X.prog X.w) X.A (.compLoop (.ListComp elt [⟨tg,iter,ifs,0⟩] scope pos) 0 (.ref it) (.ref s2.heap.objs.size) (MU scope s3.heap.objs.size X.env))
      (RR (.ref s2.heap.objs.size) s3.heap.objs.size) { s3 with heap:=h' }:=by
    refine Hh (λ n s'=>∃ i σ' ys H',Inv (cCx X (loc ++ fr) scope s3 (upd H2 s2.heap.objs.size (.lst [])) fp) [] σ' H' s'/\tn i s'.heap/\(∀ b ∈ fp,H' b=none)/\W i n σ' ys H') ?_ m0
      ⟨0,_,[],_,I4,T.keep _ _ _ st3 λ b hb o e=>hk b o e,λ b hb=>(f3 b hb).1,w0⟩
    rintro n s5 ⟨i,σ5,ys,H5,I5,st5,fr5,w5⟩
    obtain⟨hD,w5⟩:=turn i n σ5 ys H5 w5
    rcases w5 with⟨stop,qn⟩|⟨go,hz,N,hN,step⟩
    . refine thn (T.done (cCx X (loc ++ fr) scope s3 (upd H2 s2.heap.objs.size (.lst [])) fp) rfl rfl rfl hc i [] s5 σ5 H5 _ I5 (fpX fr5) st5 stop) λ r s6 ⟨hr,I6⟩=>?_
      subst hr
      exact hfin s3 s6 H5 σ5 s2.heap.objs.size I3 I6 f3 qn
    . refine thn (T.item (cCx X (loc ++ fr) scope s3 (upd H2 s2.heap.objs.size (.lst [])) fp) rfl rfl rfl hc i [] s5 σ5 H5 _ I5 (fpX fr5) st5 go) λ r s6 ⟨u,hr,h6⟩=>?_
      subst hr
      refine thn h6 λ _ s7 ⟨x,H7,I7,r7,y7,st7,fr7⟩=>?_
      have I7':=I7.pinned (fpX fr7) (T.obj _ _ st7)
      have keepI:∀ {σ8:St} {H8:Hp} {s8:Shared},Inv (cCx X (loc ++ fr) scope s3 (upd H2 s2.heap.objs.size (.lst [])) fp) ([] ++ E5 fp s7.heap) σ8 H8 s8->tn (i + 1) s8.heap/\∀ b ∈ fp,H8 b=none:=λ {σ8 H8 s8} I8=>by
        refine⟨T.keep _ _ _ st7 λ b hb o e=>(I8.pin (b,o) (List.mem_append_right _ (List.mem_append_right _ (BQ hb e)))).1,λ b hb=>?_⟩
        obtain⟨o,e,d⟩:=T.obj _ _ st7 b hb
        exact(I8.pin (b,o) (List.mem_append_right _ (List.mem_append_right _ (BQ hb e)))).2.1
      refine thn (hg s3 (upd H2 s2.heap.objs.size (.lst [])) fp _ s7 σ5 H7 x u _ I7' r7 (step x H7 y7)) λ _ s8 ⟨σ8,H8,I8,q8⟩=>?_
      refine thn (hf s3 (upd H2 s2.heap.objs.size (.lst [])) fp _ s8 σ8 H8 _ I8 q8) λ b s9 ⟨H9,I9,q9⟩=>?_
      cases b with
      | false=>
        rw[if_neg Bool.false_ne_true]at q9 ⊢
        obtain⟨m',hm,w9⟩:=hN _ _ _ q9
        exact⟨m',hm,i + 1,σ8,ys,H9,I9.unpinned,(keepI I9).1,(keepI I9).2,w9⟩
      | true=>
        rw[if_pos rfl]at q9 ⊢
        refine thn (he s3 (upd H2 s2.heap.objs.size (.lst [])) fp _ s9 σ8 H9 _ I9 q9) λ e10 s10 ⟨v10,H10,I10,r10,hD10,n10⟩=>?_
        obtain⟨m',hm,w10⟩:=hN _ _ _ n10
        refine MX (X:=cCx X (loc ++ fr) scope s3 (upd H2 s2.heap.objs.size (.lst [])) fp) I10 hD10 r10 hz λ _ s11 I11=>?_
        exact⟨m',hm,i + 1,σ8,_,_,I11.unpinned,(keepI I11).1,(keepI I11).2,w10⟩
  exact codeAny_compStart_list loop (T.self X.A 0 _ _ _ (T.keep _ _ _ st3 λ b hb o e=>hk b o e) loop)
theorem Fi{scope:Scope}{N':List Str}{fp:List Addr}{pins:List (Addr × Obj)}{σ σ5:St}{H3 H5:Hp}{s3 s6:Shared}{h'':Heap}(I3:Inv X pins σ H3 s3)(I6:Inv (cCx X N' scope s3 H3 fp) [] σ5 H5 s6)(f3:∀ b ∈ fp,C6 X pins H3 b)
    (hs:Heap.SameBut s3.heap.objs.size s6.heap h''):Inv X pins σ H5 { s6 with heap:=h'' }:=by
  have neC:∀ b o,s3.heap.get? b=some o->b ≠ s3.heap.objs.size:=λ b o e=>Nat.ne_of_lt (Heap.lt_size e)
  have un:=I6.base
  refine I3.call' (s':={ s6 with heap:=h'' }) (ch:=fp) I6.os ⟨λ b o e n hb hx=>?_,λ b o e n hb hx=>?_,un.free,λ b o e hx=>?_,un.tups,un.frzs,un.tbls⟩ ?_ I6.bare ?_
  . exact(hs.2 b (neC b o e)).trans (un.keep b o e n hb hx)
  . obtain⟨sl,q⟩:=un.slot b o e n hb hx
    exact⟨sl,(hs.2 b (neC b o e)).trans q⟩
  . obtain⟨o',q⟩:=un.there b o e hx
    exact⟨o',(hs.2 b (neC b o e)).trans q⟩
  . intro b ob e
    have hfree:H5 s3.heap.objs.size=none:=I6.free
    refine(I6.hok b ob e).stay (λ c w' hc q=>(hs.2 c ?_).trans q) (λ _ q=>q) λ _ _ q=>q
    intro z
    rcases hc with hc|hc
    . rw[<- hc,z,hfree]at e;cases e
    . rw[z,hfree]at hc;cases hc
  . intro b hb
    obtain⟨_,a2,_,a4,a5,a6⟩:=f3 b hb
    exact⟨a4,a2,a5,a6⟩
theorem Tr{i:Nat}{y:Str}{elt tg iter:Expr}{ifs:List Expr}{scope:Scope}{pos spos py:Pos}{loc fr:List Str}{ix:List Nat}{wi:TI}{g:TG}{tf:TT}{te:TE}(hN:X.N.Nodup)(hiN:X.N[i]? = some y)(hy:X.env.scope.names.lookup y=some .local)
    (hc:X.calm=true) (S:CSc X scope fr ix) (hi:PI X tg iter wi)
    (hg:∀ s H ex,PG (cCx X (loc ++ fr) scope s H ex) tg g) (hf:∀ s H ex,PF (cCx X (loc ++ fr) scope s H ex) ifs tf) (he:∀ s H ex,PE (cCx X (loc ++ fr) scope s H ex) elt te)
    (hsw:swapsWith (.ListComp elt [⟨tg,iter,ifs,0⟩] scope pos) (some (.Name y py)) spos.line X.env=pure true:=by rfl) (hs:∀ x,foldedSetIterable iter X.env x=pure x:=by intro _;rfl) :
    PS X (.Assign [.Name y py] (.ListComp elt [⟨tg,iter,ifs,0⟩] scope pos) spos) (FH (Iu loc.length ix wi g tf te) (Ew i)):=by
  intro pins s σ H D I h
  have hnames:∀ y ∈ scope.names,y.2=.local->scope.names.lookup y.1=some .local:=λ y hy e=>by
    have:=List.all_eq_true.mp S.loc y hy
    rw[e]at this
    simpa using this
  rw[exec_Assign_Name_used _ _ _ _ hsw]
  refine wpAny_bind (wpAny_standAt (wpAny_bind ?_))
  show wpAny _ _ (do let _ <- comprehension (.ListComp elt [⟨tg,iter,ifs,0⟩] scope pos) scope X.env _ (newList []) false (eval iter X.env) (some (assign (.Name y py) X.env))) _ _ s
  refine wpAny_bind (wpAny_mono (wpAny_comprehension_free (use:=some (assign (.Name y py) X.env)) (Q:=λ _ s'=>SP X pins D .next s') rfl hs (DE (S.clos I.ok)) S.kind hnames
    (thn (hi pins s σ H _ I h) λ v s1 h1=>thn h1 λ itv s2 h2=>?_)) (λ _ s' hq=>wpAny_pure (wpAny_pure hq)) λ _ _ e=>e)
  obtain⟨it,fp,tn,J,H2,rfl,I2,T,st2,f2,hW⟩:=h2
  refine OG (RR:=λ acc C=>compPost (model X.prog X.w) X.A X.xe (some (assign (.Name y py) X.env)) (λ _ s'=>SP X pins D .next s') acc C) hc S hg hf he I2 T st2 f2 hW λ s3 s6 H5 σ5 L I3 I6 f3 q=>?_
  have J6:Inv X pins σ H5 s6:=Fi (h'':=s6.heap) I3 I6 f3 (.refl ..)
  obtain⟨m,hm,_⟩:=I6.loc
  have hm:s6.heap.Ns s3.heap.objs.size m:=hm
  have hL:s3.heap.objs.size ≠ X.env.locals:=Ne.symm (Nat.ne_of_lt I3.lt)
  show wpAny _ _ (assign (.Name y py) X.env (.ref L)) _ _ s6
  refine wpAny_assign_Name (HB (v:=.ref L) J6 hN hiN (.inl hy) rfl (λ s7 I7 ⟨a,sb,ha⟩=>?_) (.inr hy))
  have hca:s3.heap.objs.size ≠ a:=by
    rcases ha with rfl|ha
    . exact hL
    . obtain⟨v,z⟩:=I3.cell y a ha
      exact Ne.symm (Nat.ne_of_lt z.lt)
  refine⟨m,hm.sameBut sb hca,λ h' hs'=>?_⟩
  refine⟨_,H5,I7.turned (t':=s7.toks) (it:=s3.heap.objs.size) (λ b o hb e=>(hs'.2 b hb).trans e) I6.free hL (.inr I3.sz) (λ x c e z=>?_) (λ p hp z=>?_),q⟩
  . obtain⟨v,w⟩:=I3.cell x c e
    exact absurd w.lt (by rw[z];exact Nat.lt_irrefl _)
  . exact absurd (Heap.lt_size (I3.pin p hp).1) (by rw[z];exact Nat.lt_irrefl _)
end
end L2
namespace L2
open PySem PySem.Spec PyProof.Rows
mutual
noncomputable def Rep(K:PySem.W.Frag)(H:Hp):PyData->V->Prop
  | .none,v=>v=.non
  | .bool b,v=>v=.bl b
  | .int i,v=>v=.int i
  | .str x,v=>v=.str x
  | .list ds,v=>∃ a xs,v=.ref a/\SqL K H a xs/\DF K H ds xs
  | .tuple ds,v=>∃ a xs,v=.ref a/\SqT K H a xs/\DF K H ds xs
  | .dict _,_=>False
noncomputable def DF(K:PySem.W.Frag)(H:Hp):List PyData->List V->Prop
  | [],xs=>xs=[]
  | d :: ds,xs=>∃ x r,xs=x :: r/\Rep K H d x/\DF K H ds r
end
section
variable{X:Cx}{pins:List (Addr × Obj)}{σ:St}{H:Hp}{s:Shared}
mutual
theorem EU(I:Inv X pins σ H s):∀ (d:PyData) (v:V) (u:Value),Rep X.K H d v->RelV v u->∃ as,Reads s.heap u d as
  | .none,v,u,h,r=>by
    have h:v=.non:=by simpa only[Rep]using h
    subst h;cases r;exact⟨_,.none⟩
  | .bool b,v,u,h,r=>by
    have h:v=.bl b:=by simpa only[Rep]using h
    subst h;cases r;exact⟨_,.bool b⟩
  | .int i,v,u,h,r=>by
    have h:v=.int i:=by simpa only[Rep]using h
    subst h;obtain⟨t,rfl⟩:=r;exact⟨_,.int i t⟩
  | .str x,v,u,h,r=>by
    have h:v=.str x:=by simpa only[Rep]using h
    subst h;obtain⟨t,rfl⟩:=r;exact⟨_,.str x t⟩
  | .list ds,v,u,h,r=>by
    have h:∃ a xs,v=.ref a/\SqL X.K H a xs/\DF X.K H ds xs:=by simpa only[Rep]using h
    obtain⟨a,xs,rfl,hq,ha⟩:=h
    cases r
    obtain⟨its,rv,⟨o,n,e,c,_,dd⟩,hz⟩:=I.list hq
    obtain⟨as,q⟩:=FL I ds xs its ha rv
    exact⟨_,.list e c dd (by simpa using q)⟩
  | .tuple ds,v,u,h,r=>by
    have h:∃ a xs,v=.ref a/\SqT X.K H a xs/\DF X.K H ds xs:=by simpa only[Rep]using h
    obtain⟨a,xs,rfl,hq,ha⟩:=h
    cases r
    obtain⟨its,rv,⟨o,e,c,n,dd⟩,hz⟩:=I.tuple hq
    obtain⟨as,q⟩:=FL I ds xs its ha rv
    exact⟨_,.tuple e c dd (by simpa using q)⟩
  | .dict _,v,u,h,r=>by
    have h:False:=by simpa only[Rep]using h
    exact h.elim
theorem FL(I:Inv X pins σ H s):∀ (ds:List PyData) (xs:List V) (us:List Value),DF X.K H ds xs->Vals xs us->∃ as,ReadsAll s.heap us ds as
  | [],xs,us,h,r=>by
    have h:xs=[]:=by simpa only[DF]using h
    subst h;cases r;exact⟨_,.nil⟩
  | d :: ds,xs,us,h,r=>by
    have h:∃ x r,xs=x :: r/\Rep X.K H d x/\DF X.K H ds r:=by simpa only[DF]using h
    obtain⟨x,rr,rfl,h1,h2⟩:=h
    cases r with
    | cons r1 r2=>
      obtain⟨as,q1⟩:=EU I d _ _ h1 r1
      obtain⟨bs,q2⟩:=FL I ds _ _ h2 r2
      exact⟨_,.cons q1 q2⟩
end
end
structure Grow(H H':Hp):Prop where
  tup:∀ b xs,H b=some (.tup xs)->H' b=some (.tup xs)
  frz:∀ b o u,H b=some (.frz o u)->H' b=some (.frz o u)
theorem Grow.refl{H:Hp}:Grow H H:=⟨λ _ _ h=>h,λ _ _ _ h=>h⟩
noncomputable def Chg(H:Hp)(p:Addr):Prop:=(∀ xs,H p ≠ some (.tup xs))/\∀ o u,H p ≠ some (.frz o u)
theorem Grow.put{H H':Hp}{p:Addr}{o:HO}(a:Grow H H')(h:Chg H' p):Grow H (upd H' p o):=⟨λ c xs e=>by
  have q:=a.tup c xs e
  have n:c ≠ p:=λ z=>h.1 xs (by rw[<- z];exact q)
  rw[AR n];exact q,λ c z u e=>by
  have q:=a.frz c z u e
  have n:c ≠ p:=λ w=>h.2 z u (by rw[<- w];exact q)
  rw[AR n];exact q⟩
theorem Chg.lst{H:Hp}{p:Addr}{xs:List V}(h:H p=some (.lst xs)):Chg H p:=⟨(λ _ e=>by rw[h]at e;cases e),(λ _ _ e=>by rw[h]at e;cases e)⟩
theorem Grow.sq{K:PySem.W.Frag}{H H':Hp}{a:Addr}{xs:List V}(g:Grow H H')(h:SqT K H a xs):SqT K H' a xs:=by
  rcases h with(h|⟨o,h⟩)|h
  . exact .inl (.inl (g.tup _ _ h))
  . exact .inl (.inr ⟨o,g.frz _ _ _ h⟩)
  . exact .inr h
section
variable{X:Cx}
theorem Jc:CallR X (.builtin "repr") (λ xs H Q=>∃ i,xs=[.int i]/\i.natAbs.log2 < 1920/\Q (.str (toString i)) H):=by
  intro pins s σ H xs us Q I r h
  obtain⟨i,rfl,hi,q⟩:=h
  obtain⟨u,rfl,ru⟩:=Cc r
  obtain⟨t,rfl⟩:=ru
  exact PySem.P.repr_of_int hi ⟨.str (toString i),H,I.tok _,⟨_,rfl⟩,q⟩
noncomputable def R8(K:PySem.W.Frag):R2:=λ x y H Q=>∃ d e,Rep K H d x/\Rep K H e y/\d.canLay0=true/\e.canLay0=true/\min d.depth e.depth <= 60/\Q (.bl (!PyData.eqv d e)) H
noncomputable def RK(K:PySem.W.Frag):R2:=λ x y H Q=>∃ d e,Rep K H d x/\Rep K H e y/\d.canLay0=true/\e.canLay0=true/\min d.depth e.depth <= 60/\Q (.bl (PyData.eqv d e)) H
theorem W1(hu:X.A.units + 64 < cLine):OpR X (compareOp .NotEq) (R8 X.K):=by
  intro pins s σ H x y v u Q I rx ry h
  obtain⟨d,e,h1,h2,c1,c2,hm,q⟩:=h
  obtain⟨as,q1⟩:=EU I d x v h1 rx
  obtain⟨bs,q2⟩:=EU I e y u h2 ry
  exact PySem.SeqAt.compareNe_reads q1 q2 c1 c2 (by omega) ⟨.bl _,H,I,rfl,q⟩
theorem W2(hu:X.A.units + 64 < cLine):OpR X (compareOp .Eq) (RK X.K):=by
  intro pins s σ H x y v u Q I rx ry h
  obtain⟨d,e,h1,h2,c1,c2,hm,q⟩:=h
  obtain⟨as,q1⟩:=EU I d x v h1 rx
  obtain⟨bs,q2⟩:=EU I e y u h2 ry
  exact PySem.SeqAt.compareEq_reads q1 q2 c1 c2 (by omega) ⟨.bl _,H,I,rfl,q⟩
theorem FD:∀ {ns:List Int} {us:List Value},Vals (ns.map V.int) us->IntsAre us ns
  | [],_,.nil=>.nil
  | n :: ns,_,.cons r t=>by obtain⟨k,rfl⟩:=r;exact .cons _ _ (FD t)
theorem Pr(hc:X.calm=true):CallR X (.builtin "sum") (λ xs H Q=>∃ (a:Addr) (ns:List Int),xs=[.ref a]/\SqL X.K H a (ns.map V.int)/\Q (.int ns.sum) H):=by
  intro pins s σ H xs us Q I r h
  obtain⟨a,ns,rfl,hq,q⟩:=h
  obtain⟨u,rfl,ru⟩:=Cc r
  cases ru
  obtain⟨its,rv,p,hz⟩:=I.list hq
  have hi:=FD rv
  obtain⟨xs,hx⟩:=hi.allInts.items
  have hl':s.heap.IsList a (intItems xs):=hx ▸ p.isList
  refine sum_intListG (I.ok.hd hc) hl' λ h' tk t' hk=>?_
  have e1:ns=xs.toList.map (·.1):=by
    rw[<- nums_intItems,<- hx]
    exact(show numsOf its.toArray.toList=ns from hi.numsOf).symm
  have e2:preSum (numAt xs) xs.size=ns.sum:=by
    rw[preSum_eq,List.take_of_length_le (by simp),e1]
  rw[e2]
  exact⟨.int ns.sum,H,I.kept hk,⟨_,rfl⟩,q⟩
end
end L2
namespace L2
open PySem PySem.Spec PyProof.Rows
section
variable(K:PySem.W.Frag){X:Cx}
theorem M3(hK:X.K=K:=by rfl):IxR X (RJ K):=by subst hK;exact UP
theorem N9(hK:X.K=K:=by rfl):IxR X (R9 K):=by subst hK;exact WJ
theorem Qd(hK:X.K=K:=by rfl):SlR X (Nl K):=by subst hK;exact T6
theorem P8(hK:X.K=K:=by rfl):OpR X (compareOp .NotIn) (rIn K true):=by subst hK;exact Lm
theorem Dv(hu:X.A.units + 64 < cLine)(hK:X.K=K:=by rfl):OpR X (compareOp .Eq) (RK K):=by subst hK;exact W2 hu
theorem FB(hu:X.A.units + 64 < cLine)(hK:X.K=K:=by rfl):OpR X (compareOp .NotEq) (R8 K):=by subst hK;exact W1 hu
theorem B4(hK:X.K=K:=by rfl):OpR X (binaryOp .Add) (Nn K):=by subst hK;exact UB
noncomputable def VU:List V->Hp->VK->Prop:=λ xs H Q=>∃ p ys,xs=[.ref p]/\(SqL K H p ys ∨ SqT K H p ys)/\Q (.int ys.length) H
theorem Bg(hK:X.K=K:=by rfl):CallR X (.builtin "len") (VU K):=by subst hK;exact MQ
noncomputable def Jl:List V->Hp->VK->Prop:=λ xs H Q=>∃ p ys,xs=[.ref p]/\(SqL K H p ys ∨ SqT K H p ys)/\∀ l,H l=none->Q (.ref l) (upd H l (.lst ys))
theorem OK(hK:X.K=K:=by rfl):CallR X (.type "list") (Jl K):=by subst hK;exact MP
noncomputable def Le:List V->Hp->VK->Prop:=λ xs H Q=>∃ p ys,xs=[.ref p]/\((SqL K H p ys/\∀ l,H l=none->Q (.ref l) (upd H l (.tup ys))) ∨ (SqT K H p ys/\Q (.ref p) H))
theorem BO(hK:X.K=K:=by rfl):CallR X (.type "tuple") (Le K):=by subst hK;exact KW
noncomputable def SO:List V->Hp->VK->Prop:=λ xs H Q=>∃ (a:Addr) (ns:List Int),xs=[.ref a]/\SqL K H a (ns.map V.int)/\Q (.int ns.sum) H
theorem Ee(hc:X.calm=true)(hK:X.K=K:=by rfl):CallR X (.builtin "sum") (SO K):=by subst hK;exact Pr hc
theorem Lk{tg l:Expr}{tl:TE}(hl:PE X l tl)(hK:X.K=K:=by rfl):PI X tg l (JT K tl):=by subst hK;exact U1 hl
theorem N4{tg l:Expr}{tl:TE}(hl:PE X l tl)(hK:X.K=K:=by rfl):PI X tg l (M4 K tl):=by subst hK;exact Vn hl
theorem U4{pos:Pos}{es:List Expr}{k:Nat}{t:TGs}{n:Nat}(hc:X.calm=true)(h:PGs X es t)(hK:X.K=K:=by rfl)
    (hn:(assignEach es X.env).length=n:=by rfl) (hst:(assignEach es X.env).findIdx? (·.1)=none:=by rfl):PG X (.Tuple es k pos) (O6 K n t):=by
  subst hK
  exact Vo hc h hn hst
end
section
variable(K:PySem.W.Frag){X:Cx}
end
end L2
namespace L2
open PySem PySem.Spec PyProof.Rows
section
variable(K:PySem.W.Frag){X:Cx}
theorem Hj:∀ {bs:List Bool} {us:List Value} {i:Nat} {v:Value},Vals (bs.map V.bl) us->us[i]? = some v->∃ b,bs[i]? = some b/\v=.bool b
  | [],_,_,_,.nil,e=>by simp at e
  | b :: bs,_,0,_,.cons r _,e=>by simp at e;subst e;exact⟨b,rfl,r⟩
  | b :: bs,_,i + 1,_,.cons _ t,e=>by
    obtain⟨c,h1,h2⟩:=Hj (i:=i) t (by simpa using e)
    exact⟨c,by simpa using h1,h2⟩
noncomputable def VW:List V->Hp->VK->Prop:=λ xs H Q=>∃ (a:Addr) (bs:List Bool),xs=[.ref a]/\SqL K H a (bs.map V.bl)/\Q (.bl (bs.all id)) H
noncomputable def VV:List V->Hp->VK->Prop:=λ xs H Q=>∃ (a:Addr) (bs:List Bool),xs=[.ref a]/\SqL K H a (bs.map V.bl)/\Q (.bl (bs.any id)) H
theorem Py(hc:X.calm=true)(hK:X.K=K:=by rfl):CallR X (.builtin "all") (VW K):=by
  subst hK
  intro pins s σ H xs us Q I r h
  obtain⟨a,bs,rfl,hq,q⟩:=h
  obtain⟨u,rfl,ru⟩:=Cc r
  cases ru
  obtain⟨its,rv,p,hz⟩:=I.list hq
  have hl:=p.isList
  have hlen:=rv.length
  have hlt:a < s.heap.objs.size:=by obtain⟨_,e,_⟩:=hl;exact Heap.lt_size e
  refine call_all_walk (wpAny_pyIter_list hl ?_)
  refine⟨s.heap.objs.size,[s.heap.objs.size,a],[s.heap.objs.size],its.toArray.size,_,_,λ i=>(bs[i]?).getD true,rfl,Walks.list (A:=X.A.in1) (I.ok.hd hc) _ a (Nat.ne_of_lt hlt) its.toArray,
    ⟨⟨_,Heap.get?_push_size _ rfl,rfl,rfl⟩,hl.push _⟩,λ i v s' Q' E' hP hQ=>?_,λ h' tk hk=>?_⟩
  . obtain⟨b,e,rfl⟩:=Hj rv (by simpa using hP)
    simp only[e,Option.getD_some]at hQ
    exact wpAny_truthy_bool hQ
  . have e:((List.range its.toArray.size).all λ i=>(bs[i]?).getD true)=bs.all id:=by
      rw[List.size_toArray,<- hlen,List.length_map];exact LSm.range_all bs
    rw[e]
    exact⟨.bl _,H,I.kept (LSm.kept_iter hk),rfl,q⟩
theorem Px(hc:X.calm=true)(hK:X.K=K:=by rfl):CallR X (.builtin "any") (VV K):=by
  subst hK
  intro pins s σ H xs us Q I r h
  obtain⟨a,bs,rfl,hq,q⟩:=h
  obtain⟨u,rfl,ru⟩:=Cc r
  cases ru
  obtain⟨its,rv,p,hz⟩:=I.list hq
  have hl:=p.isList
  have hlen:=rv.length
  have hlt:a < s.heap.objs.size:=by obtain⟨_,e,_⟩:=hl;exact Heap.lt_size e
  refine call_any_walk (wpAny_pyIter_list hl ?_)
  refine⟨s.heap.objs.size,[s.heap.objs.size,a],[s.heap.objs.size],its.toArray.size,_,_,λ i=>(bs[i]?).getD false,rfl,Walks.list (A:=X.A.in1) (I.ok.hd hc) _ a (Nat.ne_of_lt hlt) its.toArray,
    ⟨⟨_,Heap.get?_push_size _ rfl,rfl,rfl⟩,hl.push _⟩,λ i v s' Q' E' hP hQ=>?_,λ h' tk hk=>?_⟩
  . obtain⟨b,e,rfl⟩:=Hj rv (by simpa using hP)
    simp only[e,Option.getD_some]at hQ
    exact wpAny_truthy_bool hQ
  . have e:((List.range its.toArray.size).any λ i=>(bs[i]?).getD false)=bs.any id:=by
      rw[List.size_toArray,<- hlen,List.length_map];exact LSm.range_any bs
    rw[e]
    exact⟨.bl _,H,I.kept (LSm.kept_iter hk),rfl,q⟩
theorem Ml:∀ {ns:List Int} {us:List Value},IntsAre us ns->Vals (ns.map V.int) us
  | [],_,.nil=>.nil
  | _ :: _,_,.cons _ _ t=>.cons ⟨_,rfl⟩ (Ml t)
noncomputable def SR:List V->Hp->VK->Prop:=λ xs H Q=>∃ (a:Addr) (ns:List Int),xs=[.ref a]/\SqL K H a (ns.map V.int)/\0 < ns.length/\∀ M:Int,M ∈ ns->(∀ x ∈ ns,x <= M)->Q (.int M) H
theorem Pu(hc:X.calm=true)(hK:X.K=K:=by rfl):CallR X (.builtin "max") (SR K):=by
  subst hK
  intro pins s σ H xs us Q I r h
  obtain⟨a,ns,rfl,hq,hne,q⟩:=h
  obtain⟨u,rfl,ru⟩:=Cc r
  cases ru
  obtain⟨its,rv,p,hz⟩:=I.list hq
  have hi:=FD rv
  obtain⟨ys,e⟩:=hi.allInts.items
  have hns:ns=ys.toList.map (·.1):=by
    rw[<- hi.numsOf,<- nums_intItems,<- e]
  have hsz:0 < ys.size:=by
    have h3:=hne;rw[hns,List.length_map,Array.length_toList]at h3;exact h3
  have hl:=p.isList
  rw[e]at hl
  refine max_intList (I.ok.hd hc) hl hsz λ v h' tk hv hk=>?_
  obtain⟨t,rfl⟩:=intItems_at hv
  obtain⟨h1,h2⟩:=argBest_gt (numAt ys) (ys.size - 1)
  refine⟨.int _,H,I.kept hk,⟨t,rfl⟩,q _ ?_ λ x hx=>?_⟩
  . rw[hns,numAt_eq];exact getD_mem (by rw[List.length_map,Array.length_toList];omega)
  . rw[hns]at hx
    obtain⟨j,hj,rfl⟩:=mem_getD hx
    rw[List.length_map,Array.length_toList]at hj
    rw[<- numAt_eq];exact h2 j (by omega)
end
end L2
namespace L2
open PySem PySem.Spec PyProof.Rows
section
variable{prog:Program}{w:World}{A:Around}{E:Value->Shared->Prop}{s:Shared}{l:Addr}{xs:Array (Int × Tok)}
theorem Gp{Q:Value->Shared->Prop}(hl:s.heap.IsTuple l (intItems xs))
    (h:∀ s₂:Shared,s₂={ s with heap:=s.heap.push { cls:=.type "tuple_iterator",data:=.fields #[.ref l,.int 0 0] } } ->
      (s₂.heap.IsTupleIter s.heap.objs.size l 0/\s₂.heap.IsTuple l (intItems xs))->(∀ b ∈ [s.heap.objs.size,l],b < s₂.heap.objs.size)->l ≠ s.heap.objs.size->Q (.ref s.heap.objs.size) s₂) :
    wpAny (model prog w) A (pyIter (.ref l)) Q E s:=by
  have hlt:l < s.heap.objs.size:=by obtain⟨_,e,_⟩:=hl;exact Heap.lt_size e
  refine wpAny_pyIter_tuple hl (h _ rfl ⟨⟨_,Heap.get?_push_size _ rfl,rfl,rfl⟩,hl.push _⟩ (λ b hb=>?_) (Nat.ne_of_lt hlt))
  show b < (s.heap.push _).objs.size
  rw[Heap.size_push]
  rcases List.mem_cons.mp hb with rfl|hb
  . exact Nat.lt_succ_self _
  . rcases List.mem_cons.mp hb with rfl|hb
    . exact Nat.lt_succ_of_lt hlt
    . cases hb
theorem KC{h':Heap}{o:Obj}(hk:∀ b x,b ∉ [s.heap.objs.size]->(s.heap.push o).get? b=some x->h'.get? b=some x):∀ b x,s.heap.get? b=some x->h'.get? b=some x:=
  λ b x e=>hk b x (λ hm=>by rw[List.mem_singleton.mp hm]at e;exact Nat.lt_irrefl _ (Heap.lt_size e)) (Heap.get?_push_of_some _ e)
theorem L9{Q:Value->Shared->Prop}(hh:A.handled=none)(hl:s.heap.IsTuple l (intItems xs))
    (h:∀ h' tk t',(∀ b o,s.heap.get? b=some o->h'.get? b=some o)->Q (.int (preSum (numAt xs) xs.size) t') { s with heap:=h',toks:=tk }) :
    wpAny (model prog w) A (call (.builtin "sum") [.ref l]) Q E s:=by
  refine call_sum_walkG (Gp hl λ s₂ e st hfp hlI=>?_)
  subst e
  refine⟨_,_,_,_,_,_,numAt xs,rfl,Walks.tuple (A:=A.in1) hh _ l hlI (intItems xs),st,hfp,(λ _ _=>intItems_at),λ h' tk t' hk=>?_⟩
  have:=h h' tk t' (KC hk)
  simpa [intItems]using this
theorem Lr{Q:Value->Shared->Prop}(hh:A.handled=none)(hl:s.heap.IsTuple l (intItems xs))(hne:0 < xs.size)
    (h:∀ v h' tk,(intItems xs)[argBest (λ i j=>decide (numAt xs i > numAt xs j)) (xs.size - 1)]? = some v->(∀ b o,s.heap.get? b=some o->h'.get? b=some o)->Q v { s with heap:=h',toks:=tk }) :
    wpAny (model prog w) A (call (.builtin "max") [.ref l]) Q E s:=by
  refine call_max_walk (Gp hl λ s₂ e st hfp hlI=>?_)
  subst e
  refine⟨_,_,_,_,_,_,_,rfl,Walks.tuple (A:=A.in1) hh _ l hlI (intItems xs),st,hfp,by simpa [intItems]using hne,CmpOf.ints_gt (numAt xs) (λ _ _=>intItems_at),λ v h' tk hP hk=>?_⟩
  exact h v h' tk (by simpa [intItems]using hP) (KC hk)
end
section
variable(K:PySem.W.Frag){X:Cx}
noncomputable def SN:List V->Hp->VK->Prop:=λ xs H Q=>∃ (a:Addr) (ns:List Int),xs=[.ref a]/\SqT K H a (ns.map V.int)/\Q (.int ns.sum) H
theorem EB(hc:X.calm=true)(hK:X.K=K:=by rfl):CallR X (.builtin "sum") (SN K):=by
  subst hK
  intro pins s σ H xs us Q I r h
  obtain⟨a,ns,rfl,hq,q⟩:=h
  obtain⟨u,rfl,ru⟩:=Cc r
  cases ru
  obtain⟨its,rv,p,hz⟩:=I.tuple hq
  have hi:=FD rv
  obtain⟨xs,hx⟩:=hi.allInts.items
  have hl':s.heap.IsTuple a (intItems xs):=hx ▸ (show s.heap.IsTuple a its.toArray from p)
  refine L9 (I.ok.hd hc) hl' λ h' tk t' hk=>?_
  have e1:ns=xs.toList.map (·.1):=by
    rw[<- nums_intItems,<- hx]
    exact(show numsOf its.toArray.toList=ns from hi.numsOf).symm
  have e2:preSum (numAt xs) xs.size=ns.sum:=by
    rw[preSum_eq,List.take_of_length_le (by simp),e1]
  rw[e2]
  exact⟨.int ns.sum,H,I.kept hk,⟨_,rfl⟩,q⟩
noncomputable def SQ:List V->Hp->VK->Prop:=λ xs H Q=>∃ (a:Addr) (ns:List Int),xs=[.ref a]/\SqT K H a (ns.map V.int)/\0 < ns.length/\∀ M:Int,M ∈ ns->(∀ x ∈ ns,x <= M)->Q (.int M) H
theorem OI(hc:X.calm=true)(hK:X.K=K:=by rfl):CallR X (.builtin "max") (SQ K):=by
  subst hK
  intro pins s σ H xs us Q I r h
  obtain⟨a,ns,rfl,hq,hne,q⟩:=h
  obtain⟨u,rfl,ru⟩:=Cc r
  cases ru
  obtain⟨its,rv,p,hz⟩:=I.tuple hq
  have hi:=FD rv
  obtain⟨ys,e⟩:=hi.allInts.items
  have hns:ns=ys.toList.map (·.1):=by
    rw[<- hi.numsOf,<- nums_intItems,<- e]
  have hsz:0 < ys.size:=by
    have h3:=hne;rw[hns,List.length_map,Array.length_toList]at h3;exact h3
  have hl:s.heap.IsTuple a (intItems ys):=e ▸ (show s.heap.IsTuple a its.toArray from p)
  refine Lr (I.ok.hd hc) hl hsz λ v h' tk hv hk=>?_
  obtain⟨t,rfl⟩:=intItems_at hv
  obtain⟨h1,h2⟩:=argBest_gt (numAt ys) (ys.size - 1)
  refine⟨.int _,H,I.kept hk,⟨t,rfl⟩,q _ ?_ λ x hx=>?_⟩
  . rw[hns,numAt_eq];exact getD_mem (by rw[List.length_map,Array.length_toList];omega)
  . rw[hns]at hx
    obtain⟨j,hj,rfl⟩:=mem_getD hx
    rw[List.length_map,Array.length_toList]at hj
    rw[<- numAt_eq];exact h2 j (by omega)
end
end L2
namespace L2
open PySem PySem.Spec PyProof.Rows
structure DefAt(K:PySem.W.Frag)(mg:Str->Option Value)(x:Str)(st:Stmt)(f:Addr)(fd:FuncData)(ps:List Str):Prop where
  fn:Fun K x x st f fd
  mg:mg x=some (.ref f)
  bd:Binds K fd ps []
theorem Nr{X:Cx}{j k:Nat}{f:Addr}{fd:FuncData}{ps:List Str}{sp:Sp}{x:Str}{st:Stmt}{e:Expr}{es:List Expr}{t:TA}{p pos:Pos}(F:FnOk X.prog X.w X.K X.mg X.base CX0 j f fd ps sp)(hr:Room k X.A)(D:DefAt X.K X.mg x st f fd ps)(ha:PA X (e :: es) t)
    (hjk:j <= k:=by decide) (hg:Gl X x:=by rfl) (hdb:(x == ("__debug__":Str))=false:=by decide) (he:starEach (e :: es) X.env=(false,eval e X.env) :: starEach es X.env:=by rfl) (hpl:(backTo pos (starEach es X.env)).any (·.1)=false:=by rfl) :
    PE X (.Call (.Name x p) (e :: es) [] pos) (FY sp [] E0 t):=
  UA (F.mono hjk) hr hg D.mg D.fn.kp D.bd .nil XT ha hdb he hpl
theorem NJ:bootBuiltins "list"=some (.type "list"):=by decide +kernel
theorem bt_tuple:bootBuiltins "tuple"=some (.type "tuple"):=by decide +kernel
theorem bt_len:bootBuiltins "len"=some (.builtin "len"):=by decide +kernel
theorem bt_repr:bootBuiltins "repr"=some (.builtin "repr"):=by decide +kernel
theorem bt_sum:bootBuiltins "sum"=some (.builtin "sum"):=by decide +kernel
theorem bt_min:bootBuiltins "min"=some (.builtin "min"):=by decide +kernel
theorem bt_max:bootBuiltins "max"=some (.builtin "max"):=by decide +kernel
theorem bt_abs:bootBuiltins "abs"=some (.builtin "abs"):=by decide +kernel
theorem KO:bootBuiltins "sorted"=some (.builtin "sorted"):=by decide +kernel
theorem bt_all:bootBuiltins "all"=some (.builtin "all"):=by decide +kernel
theorem bt_any:bootBuiltins "any"=some (.builtin "any"):=by decide +kernel
section
variable(c:Addr)(n l u v:Int)
end
mutual
theorem IK:∀ ns:List Int,PyData.canLayAll0 (ns.map PyData.int)=true
  | []=>by simp[PyData.canLayAll0]
  | n :: ns=>by simp[PyData.canLayAll0,PyData.canLay0,IK ns]
end
end L2
namespace L2
open PySem PySem.Spec PyProof.Rows PySem.W
section
variable{X:Cx}{scope:Scope}{fr:List Str}{ix:List Nat}{pins:List (Addr × Obj)}{σ:St}{H:Hp}{s:Shared}{p:Str}
end
end L2
namespace L2
open PySem PySem.Spec PyProof.Rows PySem.W
noncomputable def cdF(c:Addr)(q:Str):Heap->Prop:=λ h=>h.CodeRec (.ref c) q
noncomputable def Xw(H:Hp)(q:Str)(pos:Pos)(ps:Array Value):Prop:=ps=#[] ∨ ∃ c,ps=#[rawInt pos.line,rawInt pos.col,.ref c]/\H c=some (.ext (cdF c q))
section
variable{X:Cx}{pins:List (Addr × Obj)}{σ:St}{H:Hp}{s:Shared}{c P:Addr}{scope:Scope}{fr:List Str}{ix:List Nat}
end
end L2
namespace L2
open PySem PySem.Spec PyProof.Rows
inductive I where
  | non|bl (b:Bool)|int (i:Int)|str (x:Str)|tup (ds:List I)
inductive D where
  | im (i:I)|mu (n:Nat)|tm (ds:List D)|ro (ns:List Int)
inductive MO where
  | lst (ds:List D)|dic (kvs:List (Key × D))
noncomputable abbrev Hd:=List MO
noncomputable abbrev Ls:=List (Option D)
noncomputable def RoL(K:PySem.W.Frag)(H:Hp)(a:Addr)(xs:List V):Prop:=(∃ o,H a=some (.frz o (.lst xs))) ∨
  ∃ (o:Obj) (its:Array Value) (n:Nat),K.lookup a=some o/\o.cls=.type "list"/\o.dict=none/\o.data=.seq its n/\its.size <= sizeLine/\Vals xs its.toList
theorem RoL.sq{K:PySem.W.Frag}{H:Hp}{a:Addr}{xs:List V}(h:RoL K H a xs):SqL K H a xs:=by
  rcases h with⟨o,h⟩|h
  . exact .inl (.inr ⟨o,h⟩)
  . exact .inr h
theorem RoL.grow{K:PySem.W.Frag}{H H':Hp}{a:Addr}{xs:List V}(g:Grow H H')(h:RoL K H a xs):RoL K H' a xs:=by
  rcases h with⟨o,h⟩|h
  . exact .inl ⟨o,g.frz _ _ _ h⟩
  . exact .inr h
noncomputable def C0(n:Nat):Prop:=n <= sizeLine
noncomputable def Ex(n:Nat):Prop:=n < sizeLine
noncomputable def CU(i j:Int):Prop:=(-(2 ^ 64) < i/\i < 2 ^ 64) ∨ (-(2 ^ 64) < j/\j < 2 ^ 64)
noncomputable def Np(i j:Int):Prop:=0 <= j/\j <= 1000000/\i.natAbs < 2 ^ 64
noncomputable def Km(j:Int):Prop:=0 < j/\j < 1073741824
noncomputable def CV(j:Int):Prop:=0 < j
noncomputable def HD(j:Int):Prop:=-(2 ^ 62) <= j/\j < 2 ^ 62
noncomputable def Nf(i j:Int):Prop:=(-(2 ^ 62) <= i/\i < 2 ^ 62)/\-(2 ^ 62) <= j/\j < 2 ^ 62
noncomputable def Kf(j:Int):Prop:=j < 2 ^ 24/\-(2 ^ 62) <= j
noncomputable def SK(i j:Int):Prop:=(-(2 ^ 62) <= i/\i < 2 ^ 62)/\(-(2 ^ 62) <= j/\j < 2 ^ 62)/\(j - i).toNat <= 2 ^ 24
noncomputable def Qe(n:Nat):Prop:=n < 1920
theorem An{n:Nat}(h:n <= 1000000):C0 n:=Nat.le_trans h (by rw[sizeLine_eq];decide)
theorem Cs{n:Nat}(h:n < 1000000):Ex n:=Nat.lt_of_lt_of_le h (by rw[sizeLine_eq];decide)
theorem Bb{i j:Int}(a:-1000000000000 <= i)(b:i <= 1000000000000):CU i j:=.inl ⟨by omega,by omega⟩
theorem Dd{j:Int}(a:-1000000000000 <= j)(b:j <= 1000000000000):HD j:=⟨by omega,by omega⟩
theorem TQ{i j:Int}(a:-1000000000000 <= i)(b:i <= 1000000000000)(c:-1000000000000 <= j)(d:j <= 1000000000000):Nf i j:=⟨⟨by omega,by omega⟩,by omega,by omega⟩
theorem Qp{j:Int}(a:-1000000000000 <= j)(b:j <= 1000000):Kf j:=⟨by omega,by omega⟩
section
variable(K:PySem.W.Frag)
mutual
noncomputable def RI(H:Hp):I->V->Prop
  | .non,v=>v=.non
  | .bl b,v=>v=.bl b
  | .int i,v=>v=.int i
  | .str x,v=>v=.str x
  | .tup ds,v=>∃ a xs,v=.ref a/\SqT K H a xs/\RIs H ds xs
noncomputable def RIs(H:Hp):List I->List V->Prop
  | [],xs=>xs=[]
  | d :: ds,xs=>∃ x r,xs=x :: r/\RI H d x/\RIs H ds r
end
mutual
noncomputable def RD(ρ:List Addr)(H:Hp):D->V->Prop
  | .im i,v=>RI K H i v
  | .mu n,v=>∃ a,ρ[n]? = some a/\v=.ref a
  | .tm ds,v=>∃ a xs,v=.ref a/\SqT K H a xs/\RDs ρ H ds xs
  | .ro ns,v=>∃ a,v=.ref a/\RoL K H a (ns.map V.int)
noncomputable def RDs(ρ:List Addr)(H:Hp):List D->List V->Prop
  | [],xs=>xs=[]
  | d :: ds,xs=>∃ x r,xs=x :: r/\RD ρ H d x/\RDs ρ H ds r
end
noncomputable def RKs(ρ:List Addr)(H:Hp):List (Key × D)->List (Key × V)->Prop
  | [],xs=>xs=[]
  | d :: ds,xs=>∃ x r,xs=x :: r/\x.1=d.1/\RD K ρ H d.2 x.2/\RKs ρ H ds r
noncomputable def RC(ρ:List Addr)(H:Hp):MO->HO->Prop
  | .lst ds,o=>∃ xs,o=.lst xs/\RDs K ρ H ds xs
  | .dic kvs,o=>∃ kv,o=.dK kv/\RKs K ρ H kvs kv
noncomputable def Kc:List Value->List (Addr × Str × Pos)
  | .ref P :: .str q _ :: .int l _ :: .int c _ :: r=>(P,q,⟨l.toNat,c.toNat,0,0⟩) :: Kc r
  | _=>[]
noncomputable def X8(o:Obj):List (Addr × Str × Pos):=match o.cls,o.data with
  | .str _ _,.fields vs=>Kc vs.toList
  | _,_=>[]
noncomputable def Gz(K:PySem.W.Frag):List (Addr × Str × Pos):=match K.getLast? with
  | some p=>X8 p.2
  | none=>[]
noncomputable def TabsOk(K:PySem.W.Frag)(H:Hp):Prop:=∀ x ∈ Gz K,∃ ps,H x.1=some (.tbl ps)/\Xw H x.2.1 x.2.2 ps
structure RH(ρ:List Addr)(H:Hp)(hd:Hd):Prop where
  len:ρ.length=hd.length
  nd:ρ.Nodup
  tabs:TabsOk K H
  ob:∀ (n:Nat) (o:MO) (a:Addr),hd[n]? = some o->ρ[n]? = some a->∃ ho,H a=some ho/\RC K ρ H o ho
structure RL(ρ:List Addr)(H:Hp)(ls:Ls)(σ:St):Prop where
  len:ls.length=σ.length
  ob:∀ (i:Nat) (d:D),ls[i]? = some (some d)->∃ v,σ[i]? = some (some v)/\RD K ρ H d v
end
structure Ext(ρ:List Addr)(H:Hp)(ρ':List Addr)(H':Hp):Prop where
  pre:∃ r,ρ'=ρ ++ r/\∀ b ∈ r,H b=none
  keep:∀ b o,H b=some o->b ∉ ρ->(∀ ps,o ≠ .tbl ps)->H' b=some o
  tab:∀ b ps,H b=some (.tbl ps)->∃ ps',H' b=some (.tbl ps')
theorem nt{o:HO}(h:match o with | .tbl _=>False|_=>True:=by trivial):∀ ps,o ≠ .tbl ps:=λ ps e=>by subst e;exact h
theorem TabsOk.upd{K:PySem.W.Frag}{H:Hp}(t:TabsOk K H){a:Addr}{ho:HO}(h1:∀ ps,H a ≠ some (.tbl ps))(h2:∀ φ,H a ≠ some (.ext φ)):TabsOk K (upd H a ho):=λ x hx=>by
  obtain⟨ps,e,g⟩:=t x hx
  have ne:x.1 ≠ a:=λ z=>h1 ps (by rw[<- z];exact e)
  refine⟨ps,by rw[AR ne];exact e,?_⟩
  rcases g with g|⟨c,g1,g2⟩
  . exact .inl g
  . have nc:c ≠ a:=λ z=>h2 _ (by rw[<- z];exact g2)
    exact .inr ⟨c,g1,by rw[AR nc];exact g2⟩
section
variable{K:PySem.W.Frag}{ρ ρ' ρ1 ρ2:List Addr}{H H' H1 H2:Hp}{hd hd' hd1:Hd}
mutual
theorem RI.grow(g:Grow H H'):∀ {i:I} {v:V},RI K H i v->RI K H' i v
  | .non,v,h=>by simpa only[RI]using h
  | .bl b,v,h=>by simpa only[RI]using h
  | .int b,v,h=>by simpa only[RI]using h
  | .str b,v,h=>by simpa only[RI]using h
  | .tup ds,v,h=>by
    simp only[RI]at h ⊢
    obtain⟨a,xs,e,q,r⟩:=h
    exact⟨a,xs,e,g.sq q,RIs.grow g r⟩
theorem RIs.grow(g:Grow H H'):∀ {i:List I} {v:List V},RIs K H i v->RIs K H' i v
  | [],v,h=>by simpa only[RIs]using h
  | d :: ds,v,h=>by
    simp only[RIs]at h ⊢
    obtain⟨x,r,e,q,z⟩:=h
    exact⟨x,r,e,q.grow g,RIs.grow g z⟩
end
theorem RH.mut(h:RH K ρ H hd){a:Addr}(m:a ∈ ρ):(∃ xs,H a=some (.lst xs)) ∨ ∃ kv,H a=some (.dK kv):=by
  obtain⟨n,e⟩:=List.mem_iff_getElem?.mp m
  have hn:n < hd.length:=by rw[<- h.len];exact(List.getElem?_eq_some_iff.mp e).1
  obtain⟨ho,e1,e2⟩:=h.ob n hd[n] a (by simp[hn]) e
  cases q:hd[n]with
  | lst ds=>rw[q]at e2;obtain⟨xs,rfl,_⟩:=e2;exact .inl ⟨xs,e1⟩
  | dic ds=>rw[q]at e2;obtain⟨xs,rfl,_⟩:=e2;exact .inr ⟨xs,e1⟩
theorem RH.tup_out(h:RH K ρ H hd){a:Addr}{xs:List V}(e:H a=some (.tup xs)):a ∉ ρ:=λ m=>by
  rcases h.mut m with⟨y,z⟩|⟨y,z⟩ <;> (rw[e]at z;cases z)
theorem RH.frz_out(h:RH K ρ H hd){a:Addr}{o:Obj}{u:HO}(e:H a=some (.frz o u)):a ∉ ρ:=λ m=>by
  rcases h.mut m with⟨y,z⟩|⟨y,z⟩ <;> (rw[e]at z;cases z)
theorem Ext.grow(e:Ext ρ H ρ' H')(h:RH K ρ H hd):Grow H H':=⟨λ b xs q=>e.keep b _ q (h.tup_out q) nt,λ b o u q=>e.keep b _ q (h.frz_out q) nt⟩
theorem Ext.refl:Ext ρ H ρ H:=⟨⟨[],by simp,by simp⟩,λ _ _ h _ _=>h,λ _ ps h=>⟨ps,h⟩⟩
theorem Ext.trans(e:Ext ρ H ρ1 H1)(h0:RH K ρ1 H1 hd1)(e2:Ext ρ1 H1 ρ2 H2):Ext ρ H ρ2 H2:=by
  obtain⟨r1,rfl,f1⟩:=e.pre
  obtain⟨r2,rfl,f2⟩:=e2.pre
  refine⟨⟨r1 ++ r2,by simp,λ b m=>?_⟩,λ b o q n t=>?_,λ b ps q=>?_⟩
  . rcases List.mem_append.mp m with m|m
    . exact f1 b m
    . have z:=f2 b m
      cases q:H b with
      | none=>rfl
      | some o=>
        by_cases n:b ∈ ρ
        . rcases h0.mut (List.mem_append_left r1 n)with⟨y,w⟩|⟨y,w⟩ <;> (rw[z]at w;cases w)
        . by_cases t:∃ ps,o=.tbl ps
          . obtain⟨ps,rfl⟩:=t
            obtain⟨ps',this⟩:=e.tab b ps q
            rw[z]at this;cases this
          . have:=e.keep b o q n λ ps y=>t ⟨ps,y⟩
            rw[z]at this;cases this
  . refine e2.keep b o (e.keep b o q n t) (λ m=>?_) t
    rcases List.mem_append.mp m with m|m
    . exact n m
    . have:=f1 b m;rw[q]at this;cases this
  . obtain⟨ps',q'⟩:=e.tab b ps q
    exact e2.tab b ps' q'
mutual
theorem RD.mono(g:Grow H H')(r:List Addr):∀ {d:D} {v:V},RD K ρ H d v->RD K (ρ ++ r) H' d v
  | .im i,v,h=>by simp only[RD]at h ⊢;exact h.grow g
  | .mu n,v,h=>by
    simp only[RD]at h ⊢
    obtain⟨a,e,q⟩:=h
    exact⟨a,by rw[List.getElem?_append_left (List.getElem?_eq_some_iff.mp e).1];exact e,q⟩
  | .tm ds,v,h=>by
    simp only[RD]at h ⊢
    obtain⟨a,xs,e,q,z⟩:=h
    exact⟨a,xs,e,g.sq q,RDs.mono g r z⟩
  | .ro ns,v,h=>by
    simp only[RD]at h ⊢
    obtain⟨a,e,q⟩:=h
    exact⟨a,e,q.grow g⟩
theorem RDs.mono(g:Grow H H')(r:List Addr):∀ {d:List D} {v:List V},RDs K ρ H d v->RDs K (ρ ++ r) H' d v
  | [],v,h=>by simpa only[RDs]using h
  | d :: ds,v,h=>by
    simp only[RDs]at h ⊢
    obtain⟨x,r',e,q,z⟩:=h
    exact⟨x,r',e,q.mono g r,RDs.mono g r z⟩
end
theorem RKs.mono(g:Grow H H')(r:List Addr):∀ {d:List (Key × D)} {v:List (Key × V)},RKs K ρ H d v->RKs K (ρ ++ r) H' d v
  | [],v,h=>by simpa only[RKs]using h
  | d :: ds,v,h=>by
    simp only[RKs]at h ⊢
    obtain⟨x,r',e,q1,q,z⟩:=h
    exact⟨x,r',e,q1,q.mono g r,RKs.mono g r z⟩
theorem RC.mono(g:Grow H H')(r:List Addr){o:MO}{ho:HO}(h:RC K ρ H o ho):RC K (ρ ++ r) H' o ho:=by
  cases o with
  | lst ds=>obtain⟨xs,e,q⟩:=h;exact⟨xs,e,q.mono g r⟩
  | dic ds=>obtain⟨xs,e,q⟩:=h;exact⟨xs,e,q.mono g r⟩
theorem RD.ext(h:RH K ρ H hd)(e:Ext ρ H ρ' H'){d:D}{v:V}(q:RD K ρ H d v):RD K ρ' H' d v:=by
  obtain⟨r,rfl,_⟩:=e.pre
  exact q.mono (e.grow h) r
theorem RDs.ext(h:RH K ρ H hd)(e:Ext ρ H ρ' H'){d:List D}{v:List V}(q:RDs K ρ H d v):RDs K ρ' H' d v:=by
  obtain⟨r,rfl,_⟩:=e.pre
  exact q.mono (e.grow h) r
theorem RL.ext(h:RH K ρ H hd)(e:Ext ρ H ρ' H'){ls:Ls}{σ:St}(q:RL K ρ H ls σ):RL K ρ' H' ls σ:=
  ⟨q.len,λ i d z=>let ⟨v,a,b⟩:=q.ob i d z;⟨v,a,b.ext h e⟩⟩
theorem RDs.len:∀ {ds:List D} {xs:List V},RDs K ρ H ds xs->xs.length=ds.length
  | [],xs,h=>by simp only[RDs]at h;rw[h];rfl
  | d :: ds,xs,h=>by
    simp only[RDs]at h
    obtain⟨x,r,rfl,_,z⟩:=h
    simp[RDs.len z]
theorem RDs.get:∀ {ds:List D} {xs:List V} {i:Nat} {d:D},RDs K ρ H ds xs->ds[i]? = some d->∃ x,xs[i]? = some x/\RD K ρ H d x
  | [],xs,i,d,h,e=>by simp at e
  | d :: ds,xs,0,e,h,q=>by
    simp only[RDs]at h
    obtain⟨x,r,rfl,z,_⟩:=h
    simp at q;subst q
    exact⟨x,rfl,z⟩
  | d :: ds,xs,i + 1,e,h,q=>by
    simp only[RDs]at h
    obtain⟨x,r,rfl,_,z⟩:=h
    obtain⟨y,a,b⟩:=RDs.get (i:=i) z (by simpa using q)
    exact⟨y,by simpa using a,b⟩
theorem RDs.nil:RDs K ρ H [] []:=by simp[RDs]
theorem RDs.cons{d:D}{v:V}{ds:List D}{vs:List V}(h:RD K ρ H d v)(t:RDs K ρ H ds vs):RDs K ρ H (d :: ds) (v :: vs):=by
  simp only[RDs];exact⟨v,vs,rfl,h,t⟩
theorem RDs.app:∀ {ds es:List D} {xs ys:List V},RDs K ρ H ds xs->RDs K ρ H es ys->RDs K ρ H (ds ++ es) (xs ++ ys)
  | [],es,xs,ys,h,t=>by simp only[RDs]at h;subst h;simpa using t
  | d :: ds,es,xs,ys,h,t=>by
    simp only[RDs]at h
    obtain⟨x,r,rfl,z,q⟩:=h
    simp only[List.cons_append]
    exact .cons z (q.app t)
theorem RDs.set:∀ {ds:List D} {xs:List V} {d:D} {v:V} (i:Nat),RDs K ρ H ds xs->RD K ρ H d v->RDs K ρ H (ds.set i d) (xs.set i v)
  | [],xs,d,v,i,h,t=>by simp only[RDs]at h;subst h;simp[RDs]
  | d :: ds,xs,e,v,0,h,t=>by
    simp only[RDs]at h
    obtain⟨x,r,rfl,z,q⟩:=h
    simpa using RDs.cons t q
  | d :: ds,xs,e,v,i + 1,h,t=>by
    simp only[RDs]at h
    obtain⟨x,r,rfl,z,q⟩:=h
    simpa using RDs.cons z (q.set i t)
theorem RDs.drop:∀ {ds:List D} {xs:List V} (n:Nat),RDs K ρ H ds xs->RDs K ρ H (ds.drop n) (xs.drop n)
  | ds,xs,0,h=>by simpa using h
  | [],xs,n + 1,h=>by simp only[RDs]at h;subst h;simp[RDs]
  | d :: ds,xs,n + 1,h=>by
    simp only[RDs]at h
    obtain⟨x,r,rfl,z,q⟩:=h
    simpa using q.drop n
theorem RDs.take:∀ {ds:List D} {xs:List V} (n:Nat),RDs K ρ H ds xs->RDs K ρ H (ds.take n) (xs.take n)
  | ds,xs,0,h=>by simp[RDs]
  | [],xs,n + 1,h=>by simp only[RDs]at h;subst h;simp[RDs]
  | d :: ds,xs,n + 1,h=>by
    simp only[RDs]at h
    obtain⟨x,r,rfl,z,q⟩:=h
    simpa using RDs.cons z (q.take n)
theorem RIs.ds:∀ {is:List I} {xs:List V},RIs K H is xs->RDs K ρ H (is.map D.im) xs
  | [],xs,h=>by simpa only[RIs,RDs,List.map_nil]using h
  | i :: is,xs,h=>by
    simp only[RIs]at h
    obtain⟨x,r,rfl,z,q⟩:=h
    exact .cons (by simpa only[RD]using z) q.ds
theorem RDs.is:∀ {is:List I} {xs:List V},RDs K ρ H (is.map D.im) xs->RIs K H is xs
  | [],xs,h=>by simpa only[RIs,RDs,List.map_nil]using h
  | i :: is,xs,h=>by
    simp only[List.map_cons,RDs]at h
    obtain⟨x,r,rfl,z,q⟩:=h
    simp only[RIs]
    exact⟨x,r,rfl,by simpa only[RD]using z,q.is⟩
theorem RH.new(h:RH K ρ H hd){a:Addr}(ha:H a=none){o:MO}{ho:HO}(c:RC K ρ H o ho):RH K (ρ ++ [a]) (upd H a ho) (hd ++ [o])/\Ext ρ H (ρ ++ [a]) (upd H a ho):=by
  have out:a ∉ ρ:=λ m=>by rcases h.mut m with⟨y,z⟩|⟨y,z⟩ <;> (rw[ha]at z;cases z)
  have ex:Ext ρ H (ρ ++ [a]) (upd H a ho):=⟨⟨[a],rfl,λ b m=>by simp at m;subst m;exact ha⟩,λ b o q n _=>by rw[AR (Ap q ha)];exact q,λ b ps q=>⟨ps,by rw[AR (Ap q ha)];exact q⟩⟩
  refine⟨⟨by simp[h.len],?_,h.tabs.upd (by simp[ha]) (by simp[ha]),λ n o' b e1 e2=>?_⟩,ex⟩
  . rw[List.nodup_append]
    refine⟨h.nd,by simp,λ x hx y hy z=>?_⟩
    simp at hy;subst hy;subst z;exact out hx
  . have gr:=ex.grow h
    by_cases hn:n < ρ.length
    . rw[List.getElem?_append_left hn]at e2
      rw[List.getElem?_append_left (by rw[<- h.len];exact hn)]at e1
      obtain⟨ho',q1,q2⟩:=h.ob n o' b e1 e2
      exact⟨ho',by rw[AR (Ap q1 ha)];exact q1,q2.mono gr [a]⟩
    . have hn':n=ρ.length:=by
        have:=(List.getElem?_eq_some_iff.mp e2).1
        simp at this;omega
      subst hn'
      simp at e2
      rw[h.len]at e1
      simp at e1
      subst e1;subst e2
      exact⟨ho,Am,c.mono gr [a]⟩
theorem RH.put(h:RH K ρ H hd){n:Nat}{a:Addr}(hn:ρ[n]? = some a){o:MO}{ho:HO}(c:RC K ρ H o ho):RH K ρ (upd H a ho) (hd.set n o)/\Ext ρ H ρ (upd H a ho):=by
  have ha:=h.mut (List.mem_of_getElem? hn)
  have n1:∀ ps,H a ≠ some (.tbl ps):=λ ps e=>by rcases ha with⟨y,z⟩|⟨y,z⟩ <;> (rw[e]at z;cases z)
  have n2:∀ φ,H a ≠ some (.ext φ):=λ ps e=>by rcases ha with⟨y,z⟩|⟨y,z⟩ <;> (rw[e]at z;cases z)
  have ex:Ext ρ H ρ (upd H a ho):=⟨⟨[],by simp,by simp⟩,λ b o q m _=>by
    have:b ≠ a:=λ z=>m (by rw[z];exact List.mem_of_getElem? hn)
    rw[AR this];exact q,λ b ps q=>⟨ps,(AR (show b ≠ a from λ z=>n1 ps (by rw[<- z];exact q))).trans q⟩⟩
  have gr:=ex.grow h
  refine⟨⟨by simp[h.len],h.nd,h.tabs.upd n1 n2,λ m o' b e1 e2=>?_⟩,ex⟩
  have hm:m < hd.length:=by rw[<- h.len];exact(List.getElem?_eq_some_iff.mp e2).1
  by_cases hmn:m=n
  . subst hmn
    rw[hn]at e2;cases e2
    rw[List.getElem?_set_self hm]at e1
    cases e1
    exact⟨ho,Am,by simpa using c.mono gr []⟩
  . rw[List.getElem?_set_ne (λ z=>hmn z.symm)]at e1
    obtain⟨ho',q1,q2⟩:=h.ob m o' b e1 e2
    have:b ≠ a:=λ z=>by
      subst z
      have l1:=(List.getElem?_eq_some_iff.mp e2).1
      have l2:=(List.getElem?_eq_some_iff.mp hn).1
      exact hmn ((List.getElem?_inj l1 h.nd).mp (e2.trans hn.symm))
    exact⟨ho',by rw[AR this];exact q1,by simpa using q2.mono gr []⟩
theorem RH.lst(h:RH K ρ H hd){n:Nat}{a:Addr}{ds:List D}(hn:ρ[n]? = some a)(e:hd[n]? = some (.lst ds)):∃ xs,H a=some (.lst xs)/\RDs K ρ H ds xs:=by
  obtain⟨ho,q,xs,rfl,r⟩:=h.ob n _ a e hn
  exact⟨xs,q,r⟩
theorem RH.dic(h:RH K ρ H hd){n:Nat}{a:Addr}{ds:List (Key × D)}(hn:ρ[n]? = some a)(e:hd[n]? = some (.dic ds)):∃ xs,H a=some (.dK xs)/\RKs K ρ H ds xs:=by
  obtain⟨ho,q,xs,rfl,r⟩:=h.ob n _ a e hn
  exact⟨xs,q,r⟩
theorem RH.hid(h:RH K ρ H hd){a:Addr}(ha:H a=none){ho:HO}:RH K ρ (upd H a ho) hd/\Ext ρ H ρ (upd H a ho):=by
  have out:a ∉ ρ:=λ m=>by rcases h.mut m with⟨y,z⟩|⟨y,z⟩ <;> (rw[ha]at z;cases z)
  have ex:Ext ρ H ρ (upd H a ho):=⟨⟨[],by simp,by simp⟩,λ b o q n _=>by rw[AR (Ap q ha)];exact q,λ b ps q=>⟨ps,by rw[AR (Ap q ha)];exact q⟩⟩
  have gr:=ex.grow h
  refine⟨⟨h.len,h.nd,h.tabs.upd (by simp[ha]) (by simp[ha]),λ m o' b e1 e2=>?_⟩,ex⟩
  obtain⟨ho',q1,q2⟩:=h.ob m o' b e1 e2
  exact⟨ho',by rw[AR (Ap q1 ha)];exact q1,by simpa using q2.mono gr []⟩
theorem RH.hput(h:RH K ρ H hd){a:Addr}(out:a ∉ ρ){xs:List V}{ho:HO}(hl:H a=some (.lst xs)):RH K ρ (upd H a ho) hd:=by
  have gr:Grow H (upd H a ho):=Grow.refl.put (.lst hl)
  refine⟨h.len,h.nd,h.tabs.upd (by simp[hl]) (by simp[hl]),λ m o' b e1 e2=>?_⟩
  obtain⟨ho',q1,q2⟩:=h.ob m o' b e1 e2
  have:b ≠ a:=λ z=>out (by rw[<- z];exact List.mem_of_getElem? e2)
  exact⟨ho',by rw[AR this];exact q1,by simpa using q2.mono gr []⟩
end
end L2
namespace L2
open PySem PySem.Spec PyProof.Rows
noncomputable abbrev ME:=Ls->Hd->Option (D × Hd)
noncomputable abbrev MT:=Ls->Hd->Option (Bool × Hd)
noncomputable abbrev MA:=Ls->Hd->Option (List D × Hd)
inductive Fl where
  | nx (ls:Ls)|rt (d:D)|bk (ls:Ls)|ct (ls:Ls)
noncomputable abbrev MS:=Ls->Hd->Option (Fl × Hd)
section
variable(K:PySem.W.Frag)
noncomputable def RE(t:TE)(m:ME):Prop:=∀ (ρ:List Addr) (σ:St) (H:Hp) (hd:Hd) (ls:Ls) (Q:VK) (d:D) (hd':Hd),RH K ρ H hd->RL K ρ H ls σ->m ls hd=some (d,hd') ->
  (∀ ρ' H' v,Ext ρ H ρ' H'->RH K ρ' H' hd'->RD K ρ' H' d v->Q v H')->t σ H Q
noncomputable def RT(t:TT)(m:MT):Prop:=∀ (ρ:List Addr) (σ:St) (H:Hp) (hd:Hd) (ls:Ls) (Q:Bool->Hp->Prop) (d:Bool) (hd':Hd),RH K ρ H hd->RL K ρ H ls σ->m ls hd=some (d,hd') ->
  (∀ ρ' H',Ext ρ H ρ' H'->RH K ρ' H' hd'->Q d H')->t σ H Q
noncomputable def RA(t:TA)(m:MA):Prop:=∀ (ρ:List Addr) (σ:St) (H:Hp) (hd:Hd) (ls:Ls) (Q:List V->Hp->Prop) (d:List D) (hd':Hd),RH K ρ H hd->RL K ρ H ls σ->m ls hd=some (d,hd') ->
  (∀ ρ' H' v,Ext ρ H ρ' H'->RH K ρ' H' hd'->RDs K ρ' H' d v->Q v H')->t σ H Q
noncomputable def RN(t:TE)(m:MA):Prop:=∀ (ρ:List Addr) (σ:St) (H:Hp) (hd:Hd) (ls:Ls) (Q:VK) (d:List D) (hd':Hd),RH K ρ H hd->RL K ρ H ls σ->m ls hd=some (d,hd') ->
  (∀ ρ' H' a xs,Ext ρ H ρ' H'->RH K ρ' H' hd'->H a=none->a ∉ ρ'->H' a=some (.lst xs)->RDs K ρ' H' d xs->Q (.ref a) H')->t σ H Q
noncomputable def Xv(E:Ends)(ρ:List Addr)(H:Hp):Fl->Prop
  | .nx ls=>∀ σ,RL K ρ H ls σ->E.nx σ H
  | .bk ls=>∀ σ,RL K ρ H ls σ->E.bk σ H
  | .ct ls=>∀ σ,RL K ρ H ls σ->E.ct σ H
  | .rt d=>∀ v,RD K ρ H d v->E.rt v H
noncomputable def RS(t:TS)(m:MS):Prop:=∀ (ρ:List Addr) (σ:St) (H:Hp) (hd:Hd) (ls:Ls) (E:Ends) (f:Fl) (hd':Hd),RH K ρ H hd->RL K ρ H ls σ->m ls hd=some (f,hd') ->
  (∀ ρ' H',Ext ρ H ρ' H'->RH K ρ' H' hd'->Xv K E ρ' H' f)->t E σ H
noncomputable def RB(r:R2)(f:D->D->Hd->Option (D × Hd)):Prop:=∀ (ρ:List Addr) (H:Hp) (hd:Hd) (d e:D) (v u:V) (Q:VK) (z:D) (hd':Hd),RH K ρ H hd->RD K ρ H d v->RD K ρ H e u->f d e hd=some (z,hd') ->
  (∀ ρ' H' w,Ext ρ H ρ' H'->RH K ρ' H' hd'->RD K ρ' H' z w->Q w H')->r v u H Q
noncomputable def RF(r:List V->Hp->VK->Prop)(f:List D->Hd->Option (D × Hd)):Prop:=∀ (ρ:List Addr) (H:Hp) (hd:Hd) (ds:List D) (vs:List V) (Q:VK) (z:D) (hd':Hd),RH K ρ H hd->RDs K ρ H ds vs->f ds hd=some (z,hd') ->
  (∀ ρ' H' w,Ext ρ H ρ' H'->RH K ρ' H' hd'->RD K ρ' H' z w->Q w H')->r vs H Q
noncomputable def RG(tp:Bool)(r:List V->Hp->VK->Prop)(g:List D->Option D):Prop:=∀ (ρ:List Addr) (H:Hp) (hd:Hd) (a:Addr) (xs:List V) (ds:List D) (Q:VK) (z:D),RH K ρ H hd->(SqL K H a xs ∨ (tp=true/\SqT K H a xs))->RDs K ρ H ds xs->g ds=some z ->
  (∀ H' w,Ext ρ H ρ H'->RH K ρ H' hd->RD K ρ H' z w->Q w H')->r [.ref a] H Q
end
structure QE(K:PySem.W.Frag)(X:Cx)(e:Expr)(t:TE)(m:ME):Prop where
  p:PE X e t
  r:RE K t m
structure QT(K:PySem.W.Frag)(X:Cx)(e:Expr)(t:TT)(m:MT):Prop where
  p:PT X e t
  r:RT K t m
structure QW(K:PySem.W.Frag)(X:Cx)(e:Expr)(t:TT)(m:MT):Prop where
  p:PW X e t
  r:RT K t m
structure QA(K:PySem.W.Frag)(X:Cx)(e:List Expr)(t:TA)(m:MA):Prop where
  p:PA X e t
  r:RA K t m
structure QN(K:PySem.W.Frag)(X:Cx)(e:Expr)(t:TE)(m:MA):Prop where
  p:PE X e t
  r:RN K t m
structure QS(K:PySem.W.Frag)(X:Cx)(e:Stmt)(t:TS)(m:MS):Prop where
  p:PS X e t
  r:RS K t m
structure QSs(K:PySem.W.Frag)(X:Cx)(e:List Stmt)(t:TS)(m:MS):Prop where
  p:PSs X e t
  r:RS K t m
noncomputable def Ad:D->Option (List D)
  | .im (.tup is)=>some (is.map .im)
  | .tm ds=>some ds
  | _=>none
noncomputable def Az(hd:Hd):D->Option (List D)
  | .mu n=>match hd[n]? with
    | some (.lst ds)=>some ds
    | _=>none
  | .ro ns=>some (ns.map λ n=>.im (.int n))
  | _=>none
noncomputable def B2(hd:Hd)(d:D):Option (List D):=match Ad d with
  | some ds=>some ds
  | none=>Az hd d
noncomputable def BZ:List D->Option (List I)
  | []=>some []
  | .im i :: r=>(BZ r).map (i :: ·)
  | _ :: _=>none
noncomputable def Ai(ds:List D):D:=match BZ ds with
  | some is=>.im (.tup is)
  | none=>.tm ds
noncomputable def BY:List D->Option (List Int)
  | []=>some []
  | .im (.int i) :: r=>(BY r).map (i :: ·)
  | _ :: _=>none
noncomputable def DM:List D->Option (List Bool)
  | []=>some []
  | .im (.bl i) :: r=>(DM r).map (i :: ·)
  | _ :: _=>none
section
variable{K:PySem.W.Frag}{ρ ρ':List Addr}{H H':Hp}{hd hd':Hd}
theorem Gj:∀ {ds:List D} {is:List I},BZ ds=some is->ds=is.map .im
  | [],is,h=>by simp[BZ]at h;subst h;rfl
  | .im i :: r,is,h=>by
    simp only[BZ,Option.map_eq_some_iff]at h
    obtain⟨js,e,rfl⟩:=h
    simp[Gj e]
  | .mu _ :: _,is,h=>by simp[BZ]at h
  | .tm _ :: _,is,h=>by simp[BZ]at h
  | .ro _ :: _,is,h=>by simp[BZ]at h
theorem GZ:∀ {ds:List D} {is:List Int},BY ds=some is->ds=is.map λ i=>.im (.int i)
  | [],is,h=>by simp[BY]at h;subst h;rfl
  | .im (.int i) :: r,is,h=>by
    simp only[BY,Option.map_eq_some_iff]at h
    obtain⟨js,e,rfl⟩:=h
    simp[GZ e]
  | .im (.bl _) :: _,is,h=>by simp[BY]at h
  | .im (.str _) :: _,is,h=>by simp[BY]at h
  | .im .non :: _,is,h=>by simp[BY]at h
  | .im (.tup _) :: _,is,h=>by simp[BY]at h
  | .mu _ :: _,is,h=>by simp[BY]at h
  | .tm _ :: _,is,h=>by simp[BY]at h
  | .ro _ :: _,is,h=>by simp[BY]at h
theorem K3:∀ {ds:List D} {is:List Bool},DM ds=some is->ds=is.map λ i=>.im (.bl i)
  | [],is,h=>by simp[DM]at h;subst h;rfl
  | .im (.bl i) :: r,is,h=>by
    simp only[DM,Option.map_eq_some_iff]at h
    obtain⟨js,e,rfl⟩:=h
    simp[K3 e]
  | .im (.int _) :: _,is,h=>by simp[DM]at h
  | .im (.str _) :: _,is,h=>by simp[DM]at h
  | .im .non :: _,is,h=>by simp[DM]at h
  | .im (.tup _) :: _,is,h=>by simp[DM]at h
  | .mu _ :: _,is,h=>by simp[DM]at h
  | .tm _ :: _,is,h=>by simp[DM]at h
  | .ro _ :: _,is,h=>by simp[DM]at h
@[simp] theorem Q2(is:List I):BZ (is.map .im)=some is:=by induction is <;> simp_all [BZ]
@[simp] theorem Hc(is:List Int):BY (is.map λ i=>.im (.int i))=some is:=by induction is <;> simp_all [BY]
@[simp] theorem MV(is:List Bool):DM (is.map λ i=>.im (.bl i))=some is:=by induction is <;> simp_all [DM]
theorem Hq:∀ {ns:List Int} {xs:List V},RDs K ρ H (ns.map λ i=>.im (.int i)) xs->xs=ns.map V.int
  | [],xs,h=>by simpa [RDs]using h
  | n :: ns,xs,h=>by
    simp only[List.map_cons,RDs,RD,RI]at h
    obtain⟨x,r,rfl,rfl,z⟩:=h
    rw[Hq z];rfl
theorem G7:∀ {ns:List Int},RDs K ρ H (ns.map λ i=>.im (.int i)) (ns.map V.int)
  | []=>by simp[RDs]
  | n :: ns=>by simp only[List.map_cons];exact .cons (by simp[RD,RI]) G7
theorem LX:∀ {ns:List Bool} {xs:List V},RDs K ρ H (ns.map λ i=>.im (.bl i)) xs->xs=ns.map V.bl
  | [],xs,h=>by simpa [RDs]using h
  | n :: ns,xs,h=>by
    simp only[List.map_cons,RDs,RD,RI]at h
    obtain⟨x,r,rfl,rfl,z⟩:=h
    rw[LX z];rfl
theorem RD.tup{d:D}{v:V}{ds:List D}(h:RD K ρ H d v)(e:Ad d=some ds):∃ a xs,v=.ref a/\SqT K H a xs/\RDs K ρ H ds xs:=by
  cases d with
  | im i=>
    cases i with
    | tup is=>
      simp only[Ad,Option.some.injEq]at e
      subst e
      simp only[RD,RI]at h
      obtain⟨a,xs,rfl,q,r⟩:=h
      exact⟨a,xs,rfl,q,r.ds⟩
    | _=>simp[Ad]at e
  | tm es=>
    simp only[Ad,Option.some.injEq]at e
    subst e
    simpa only[RD]using h
  | _=>simp[Ad]at e
theorem RD.lst{d:D}{v:V}{ds:List D}(hR:RH K ρ H hd)(h:RD K ρ H d v)(e:Az hd d=some ds):∃ a xs,v=.ref a/\SqL K H a xs/\RDs K ρ H ds xs:=by
  cases d with
  | mu n=>
    simp only[Az]at e
    simp only[RD]at h
    obtain⟨a,hn,rfl⟩:=h
    split at e
    . next q=>
      cases e
      obtain⟨xs,e1,e2⟩:=hR.lst hn q
      exact⟨a,xs,rfl,SqL.of e1,e2⟩
    . cases e
  | ro ns=>
    simp only[Az,Option.some.injEq]at e
    subst e
    simp only[RD]at h
    obtain⟨a,rfl,q⟩:=h
    exact⟨a,_,rfl,q.sq,G7⟩
  | _=>simp[Az]at e
theorem RD.seq{d:D}{v:V}{ds:List D}(hR:RH K ρ H hd)(h:RD K ρ H d v)(e:B2 hd d=some ds):∃ a xs,v=.ref a/\(SqL K H a xs ∨ SqT K H a xs)/\RDs K ρ H ds xs:=by
  unfold B2 at e
  split at e
  . next q=>
    cases e
    obtain⟨a,xs,e1,e2,e3⟩:=h.tup q
    exact⟨a,xs,e1,.inr e2,e3⟩
  . obtain⟨a,xs,e1,e2,e3⟩:=h.lst hR e
    exact⟨a,xs,e1,.inl e2,e3⟩
theorem Cm{ds:List D}{a:Addr}{xs:List V}(q:SqT K H a xs)(r:RDs K ρ H ds xs):RD K ρ H (Ai ds) (.ref a):=by
  unfold Ai
  split
  . next e=>
    rw[Gj e]at r
    simp only[RD,RI]
    exact⟨a,xs,rfl,q,r.is⟩
  . simp only[RD]
    exact⟨a,xs,rfl,q,r⟩
noncomputable def A0(i:Nat):ME:=λ ls hd=>match ls[i]? with
  | some (some d)=>some (d,hd)
  | _=>none
theorem VN{i:Nat}:RE K (NT i) (A0 i):=by
  intro ρ σ H hd ls Q d hd' hR hL hm hQ
  unfold A0 at hm
  split at hm
  . next e=>
    cases hm
    obtain⟨v,e1,e2⟩:=hL.ob i _ e
    exact⟨v,e1,hQ ρ H v .refl hR e2⟩
  . cases hm
noncomputable def mC(i:I):ME:=λ _ hd=>some (.im i,hd)
theorem Ni{v:V}{i:I}(h:∀ H,RI K H i v):RE K (tC v) (mC i):=by
  intro ρ σ H hd ls Q d hd' hR hL hm hQ
  cases hm
  exact hQ ρ H v .refl hR (by simpa only[RD]using h H)
noncomputable def mOp(f:D->D->Hd->Option (D × Hd))(ma mb:ME):ME:=λ ls hd=>(ma ls hd).bind λ p=>(mb ls p.2).bind λ q=>f p.1 q.1 q.2
theorem Kg{r:R2}{f:D->D->Hd->Option (D × Hd)}{ta tb:TE}{ma mb:ME}(hr:RB K r f)(ha:RE K ta ma)(hb:RE K tb mb):RE K (tOp r ta tb) (mOp f ma mb):=by
  intro ρ σ H hd ls Q d hd' hR hL hm hQ
  obtain⟨⟨d1,h1⟩,e1,hm⟩:=Option.bind_eq_some_iff.mp hm
  obtain⟨⟨d2,h2⟩,e2,hm⟩:=Option.bind_eq_some_iff.mp hm
  refine ha ρ σ H hd ls _ d1 h1 hR hL e1 λ ρ1 H1 v1 x1 R1 r1=>?_
  refine hb ρ1 σ H1 h1 ls _ d2 h2 R1 (hL.ext hR x1) e2 λ ρ2 H2 v2 x2 R2 r2=>?_
  exact hr ρ2 H2 h2 d1 d2 v1 v2 Q d hd' R2 (r1.ext R1 x2) r2 hm λ ρ' H' w x3 R3 r3=>hQ ρ' H' w ((x1.trans R1 x2).trans R2 x3) R3 r3
noncomputable def Jw(ta tb:MT):MT:=λ ls hd=>(ta ls hd).bind λ p=>if p.1=true then tb ls p.2 else some (false,p.2)
noncomputable def mOr(ta tb:MT):MT:=λ ls hd=>(ta ls hd).bind λ p=>if p.1=true then some (true,p.2)else tb ls p.2
noncomputable def Jt(ta:MT):MT:=λ ls hd=>(ta ls hd).bind λ p=>some (!p.1,p.2)
theorem V5{ta tb:TT}{ma mb:MT}(ha:RT K ta ma)(hb:RT K tb mb):RT K (Qb ta tb) (Jw ma mb):=by
  intro ρ σ H hd ls Q d hd' hR hL hm hQ
  obtain⟨⟨d1,h1⟩,e1,hm⟩:=Option.bind_eq_some_iff.mp hm
  refine ha ρ σ H hd ls _ d1 h1 hR hL e1 λ ρ1 H1 x1 R1=>?_
  cases d1 with
  | true=>
    rw[if_pos rfl]at hm ⊢
    exact hb ρ1 σ H1 h1 ls Q d hd' R1 (hL.ext hR x1) hm λ ρ2 H2 x2 R2=>hQ ρ2 H2 (x1.trans R1 x2) R2
  | false=>
    rw[if_neg Bool.false_ne_true]at hm ⊢
    cases hm
    exact hQ ρ1 H1 x1 R1
theorem XB{ta tb:TT}{ma mb:MT}(ha:RT K ta ma)(hb:RT K tb mb):RT K (tOr ta tb) (mOr ma mb):=by
  intro ρ σ H hd ls Q d hd' hR hL hm hQ
  obtain⟨⟨d1,h1⟩,e1,hm⟩:=Option.bind_eq_some_iff.mp hm
  refine ha ρ σ H hd ls _ d1 h1 hR hL e1 λ ρ1 H1 x1 R1=>?_
  cases d1 with
  | true=>
    rw[if_pos rfl]at hm ⊢
    cases hm
    exact hQ ρ1 H1 x1 R1
  | false=>
    rw[if_neg Bool.false_ne_true]at hm ⊢
    exact hb ρ1 σ H1 h1 ls Q d hd' R1 (hL.ext hR x1) hm λ ρ2 H2 x2 R2=>hQ ρ2 H2 (x1.trans R1 x2) R2
theorem V4{ta:TT}{ma:MT}(ha:RT K ta ma):RT K (QV ta) (Jt ma):=by
  intro ρ σ H hd ls Q d hd' hR hL hm hQ
  obtain⟨⟨d1,h1⟩,e1,hm⟩:=Option.bind_eq_some_iff.mp hm
  cases hm
  exact ha ρ σ H hd ls _ d1 h1 hR hL e1 λ ρ1 H1 x1 R1=>hQ ρ1 H1 x1 R1
open Classical in
noncomputable def Eh(hd:Hd):D->Option Bool
  | .im .non=>some false
  | .im (.bl b)=>some b
  | .im (.int i)=>some (i != 0)
  | .im (.str x)=>if C0 x.length then some ((x.length:Int) != 0)else none
  | .im (.tup is)=>some (!is.isEmpty)
  | .tm is=>some (!is.isEmpty)
  | .ro ns=>some (!ns.isEmpty)
  | .mu n=>match hd[n]? with
    | some (.lst ds)=>some (!ds.isEmpty)
    | some (.dic ds)=>some (!ds.isEmpty)
    | none=>none
theorem Dj{α β:Type}{xs:List α}{ys:List β}(h:xs.length=ys.length):xs.isEmpty=ys.isEmpty:=by
  cases xs <;> cases ys <;> simp_all
theorem RKs.len:∀ {ds:List (Key × D)} {xs:List (Key × V)},RKs K ρ H ds xs->xs.length=ds.length
  | [],xs,h=>by simp only[RKs]at h;rw[h];rfl
  | d :: ds,xs,h=>by
    simp only[RKs]at h
    obtain⟨x,r,rfl,_,_,z⟩:=h
    simp[RKs.len z]
theorem T2{d:D}{v:V}{b:Bool}(hR:RH K ρ H hd)(h:RD K ρ H d v)(e:Eh hd d=some b):MY K v H b:=by
  cases d with
  | im i=>
    cases i with
    | non=>simp only[RD,RI]at h;subst h;simp only[Eh,Option.some.injEq]at e;subst e;exact rfl
    | bl c=>simp only[RD,RI]at h;subst h;simp only[Eh,Option.some.injEq]at e;subst e;exact rfl
    | int c=>simp only[RD,RI]at h;subst h;simp only[Eh,Option.some.injEq]at e;subst e;exact rfl
    | str c=>
      simp only[RD,RI]at h;subst h;simp only[Eh]at e
      split at e
      . next z=>cases e;exact⟨z,rfl⟩
      . cases e
    | tup is=>
      obtain⟨a,xs,rfl,q,r⟩:=h.tup (ds:=is.map .im) rfl
      simp only[Eh,Option.some.injEq]at e;subst e
      exact .inr (.inl ⟨xs,q,by rw[Dj (show xs.length=is.length by simpa using r.len)]⟩)
  | tm ds=>
    obtain⟨a,xs,rfl,q,r⟩:=h.tup (ds:=ds) rfl
    simp only[Eh,Option.some.injEq]at e;subst e
    exact .inr (.inl ⟨xs,q,by rw[Dj r.len]⟩)
  | ro ns=>
    obtain⟨a,xs,rfl,q,r⟩:=h.lst hR (hd:=hd) (ds:=ns.map λ n=>.im (.int n)) rfl
    simp only[Eh,Option.some.injEq]at e;subst e
    exact .inl ⟨xs,q,by rw[Dj (show xs.length=ns.length by simpa using r.len)]⟩
  | mu n=>
    simp only[RD]at h
    obtain⟨a,hn,rfl⟩:=h
    simp only[Eh]at e
    split at e
    . next q=>
      cases e
      obtain⟨xs,e1,e2⟩:=hR.lst hn q
      exact .inl ⟨xs,SqL.of e1,by rw[Dj e2.len]⟩
    . next q=>
      cases e
      obtain⟨xs,e1,e2⟩:=hR.dic hn q
      exact .inr (.inr ⟨xs,e1,by rw[Dj e2.len]⟩)
    . cases e
noncomputable def GU(ma:ME):MT:=λ ls hd=>(ma ls hd).bind λ p=>(Eh p.2 p.1).map (·,p.2)
theorem Qi{ta:TE}{ma:ME}(ha:RE K ta ma):RT K (λ σ H Q=>ta σ H λ x H'=>∃ k,MY K x H' k/\Q k H') (GU ma):=by
  intro ρ σ H hd ls Q d hd' hR hL hm hQ
  obtain⟨⟨d1,h1⟩,e1,hm⟩:=Option.bind_eq_some_iff.mp hm
  obtain⟨b,e2,e3⟩:=Option.map_eq_some_iff.mp hm
  cases e3
  exact ha ρ σ H hd ls _ d1 h1 hR hL e1 λ ρ1 H1 v x1 R1 r1=>⟨_,T2 R1 r1 e2,hQ ρ1 H1 x1 R1⟩
noncomputable def Ak(ma:ME):MT:=λ ls hd=>(ma ls hd).bind λ p=>match p.1 with
  | .im (.bl b)=>some (b,p.2)
  | _=>none
theorem Jj{ta:TE}{ma:ME}(ha:RE K ta ma):RT K (Kd ta) (Ak ma):=by
  intro ρ σ H hd ls Q d hd' hR hL hm hQ
  obtain⟨⟨d1,h1⟩,e1,hm⟩:=Option.bind_eq_some_iff.mp hm
  dsimp only at hm
  split at hm
  . cases hm
    exact ha ρ σ H hd ls _ _ _ hR hL e1 λ ρ1 H1 v x1 R1 r1=>⟨_,by simpa only[RD,RI]using r1,hQ ρ1 H1 x1 R1⟩
  . cases hm
theorem Y7{ta:TE}{ma:ME}(ha:RE K ta ma):RT K (tB ta) (Ak ma):=Jj ha
noncomputable def mIf(c:MT)(ma mb:ME):ME:=λ ls hd=>(c ls hd).bind λ p=>if p.1=true then ma ls p.2 else mb ls p.2
theorem XG{tc:TT}{c:MT}{ta tb:TE}{ma mb:ME}(hc:RT K tc c)(ha:RE K ta ma)(hb:RE K tb mb):RE K (tIf tc ta tb) (mIf c ma mb):=by
  intro ρ σ H hd ls Q d hd' hR hL hm hQ
  obtain⟨⟨d1,h1⟩,e1,hm⟩:=Option.bind_eq_some_iff.mp hm
  refine hc ρ σ H hd ls _ d1 h1 hR hL e1 λ ρ1 H1 x1 R1=>?_
  cases d1 with
  | true=>
    rw[if_pos rfl]at hm ⊢
    exact ha ρ1 σ H1 h1 ls Q d hd' R1 (hL.ext hR x1) hm λ ρ2 H2 v x2 R2 r2=>hQ ρ2 H2 v (x1.trans R1 x2) R2 r2
  | false=>
    rw[if_neg Bool.false_ne_true]at hm ⊢
    exact hb ρ1 σ H1 h1 ls Q d hd' R1 (hL.ext hR x1) hm λ ρ2 H2 v x2 R2 r2=>hQ ρ2 H2 v (x1.trans R1 x2) R2 r2
noncomputable def Xi(ma mb:ME):ME:=λ ls hd=>(Ak ma ls hd).bind λ p=>if p.1=true then mb ls p.2 else some (.im (.bl false),p.2)
noncomputable def YD(ma mb:ME):ME:=λ ls hd=>(Ak ma ls hd).bind λ p=>if p.1=true then some (.im (.bl true),p.2)else mb ls p.2
noncomputable def Xa(ma:ME):ME:=λ ls hd=>(Ak ma ls hd).bind λ p=>some (.im (.bl (!p.1)),p.2)
noncomputable def AC:MA:=λ _ hd=>some ([],hd)
noncomputable def A5(ma:ME)(mr:MA):MA:=λ ls hd=>(ma ls hd).bind λ p=>(mr ls p.2).bind λ q=>some (p.1 :: q.1,q.2)
theorem VT:RA K Ck AC:=by
  intro ρ σ H hd ls Q d hd' hR hL hm hQ
  cases hm
  exact hQ ρ H [] .refl hR .nil
theorem Tg{ta:TE}{tr:TA}{ma:ME}{mr:MA}(ha:RE K ta ma)(hr:RA K tr mr):RA K (Bp ta tr) (A5 ma mr):=by
  intro ρ σ H hd ls Q d hd' hR hL hm hQ
  obtain⟨⟨d1,h1⟩,e1,hm⟩:=Option.bind_eq_some_iff.mp hm
  obtain⟨⟨d2,h2⟩,e2,hm⟩:=Option.bind_eq_some_iff.mp hm
  cases hm
  refine ha ρ σ H hd ls _ d1 h1 hR hL e1 λ ρ1 H1 v1 x1 R1 r1=>?_
  exact hr ρ1 σ H1 h1 ls _ d2 _ R1 (hL.ext hR x1) e2 λ ρ2 H2 v2 x2 R2 r2=>hQ ρ2 H2 _ (x1.trans R1 x2) R2 (.cons (r1.ext R1 x2) r2)
open Classical in
noncomputable def CI(ma:MA):ME:=λ ls hd=>(ma ls hd).bind λ p=>if C0 p.1.length then some (Ai p.1,p.2)else none
theorem VO{t:TA}{m:MA}(h:RA K t m):RE K (QM t) (CI m):=by
  intro ρ σ H hd ls Q d hd' hR hL hm hQ
  obtain⟨⟨d1,h1⟩,e1,hm⟩:=Option.bind_eq_some_iff.mp hm
  dsimp only at hm
  split at hm
  . next z=>
    cases hm
    refine h ρ σ H hd ls _ d1 _ hR hL e1 λ ρ1 H1 v1 x1 R1 r1=>⟨by rw[r1.len];exact z,λ p hp=>?_⟩
    obtain⟨R2,x2⟩:=R1.hid (ho:=.tup v1) hp
    exact hQ ρ1 _ _ (x1.trans R1 x2) R2 (Cm (SqT.of Am) (r1.ext R1 x2))
  . cases hm
open Classical in
noncomputable def DV(ma:MA):MA:=λ ls hd=>(ma ls hd).bind λ p=>if C0 p.1.length then some (p.1,p.2)else none
theorem RH.out(hR:RH K ρ H hd){a:Addr}(h:H a=none):a ∉ ρ:=λ m=>by rcases hR.mut m with⟨y,z⟩|⟨y,z⟩ <;> (rw[h]at z;cases z)
theorem Ext.none(e:Ext ρ H ρ' H')(hR:RH K ρ H hd){a:Addr}(h:H' a=none)(hR':RH K ρ' H' hd'):H a=none:=by
  cases q:H a with
  | none=>rfl
  | some o=>
    by_cases m:a ∈ ρ
    . obtain⟨r,rfl,_⟩:=e.pre
      exact absurd (List.mem_append_left r m) (hR'.out h)
    . by_cases t:∃ ps,o=.tbl ps
      . obtain⟨ps,rfl⟩:=t
        obtain⟨ps',this⟩:=e.tab a ps q
        rw[h]at this;cases this
      . rw[e.keep a o q m λ ps y=>t ⟨ps,y⟩]at h;cases h
theorem VC{t:TA}{m:MA}(h:RA K t m):RN K (QX t) (DV m):=by
  intro ρ σ H hd ls Q d hd' hR hL hm hQ
  obtain⟨⟨d1,h1⟩,e1,hm⟩:=Option.bind_eq_some_iff.mp hm
  dsimp only at hm
  split at hm
  . next z=>
    cases hm
    refine h ρ σ H hd ls _ _ _ hR hL e1 λ ρ1 H1 v1 x1 R1 r1=>⟨by rw[r1.len];exact z,λ p hp=>?_⟩
    obtain⟨R2,x2⟩:=R1.hid (ho:=.lst v1) hp
    exact hQ ρ1 _ p v1 (x1.trans R1 x2) R2 (x1.none hR hp R1) (R1.out hp) Am (r1.ext R1 x2)
  . cases hm
noncomputable def BF(ml:MA):ME:=λ ls hd=>(ml ls hd).bind λ p=>some (.mu p.2.length,p.2 ++ [.lst p.1])
theorem RH.name(hR:RH K ρ H hd){a:Addr}{xs:List V}{ds:List D}(out:a ∉ ρ)(e:H a=some (.lst xs))(r:RDs K ρ H ds xs):RH K (ρ ++ [a]) H (hd ++ [.lst ds]):=by
  have mono:∀ {o:MO} {ho:HO},RC K ρ H o ho->RC K (ρ ++ [a]) H o ho:=λ c=>c.mono Grow.refl [a]
  refine⟨by simp[hR.len],?_,hR.tabs,λ n o' b e1 e2=>?_⟩
  . rw[List.nodup_append]
    refine⟨hR.nd,by simp,λ x hx y hy z=>?_⟩
    simp at hy;subst hy;subst z;exact out hx
  . by_cases hn:n < ρ.length
    . rw[List.getElem?_append_left hn]at e2
      rw[List.getElem?_append_left (by rw[<- hR.len];exact hn)]at e1
      obtain⟨ho',q1,q2⟩:=hR.ob n o' b e1 e2
      exact⟨ho',q1,mono q2⟩
    . have hn':n=ρ.length:=by
        have:=(List.getElem?_eq_some_iff.mp e2).1
        simp at this;omega
      subst hn'
      simp at e2
      rw[hR.len]at e1
      simp at e1
      subst e1;subst e2
      exact⟨_,e,mono ⟨xs,rfl,r⟩⟩
theorem Ext.name(e:Ext ρ H ρ' H'){a:Addr}(h:H a=Option.none):Ext ρ H (ρ' ++ [a]) H':=by
  obtain⟨r,rfl,f⟩:=e.pre
  refine⟨⟨r ++ [a],by simp,λ b m=>?_⟩,e.keep,e.tab⟩
  rcases List.mem_append.mp m with m|m
  . exact f b m
  . simp at m;subst m;exact h
theorem Oj{t:TE}{m:MA}(h:RN K t m):RE K t (BF m):=by
  intro ρ σ H hd ls Q d hd' hR hL hm hQ
  obtain⟨⟨d1,h1⟩,e1,hm⟩:=Option.bind_eq_some_iff.mp hm
  cases hm
  refine h ρ σ H hd ls Q d1 h1 hR hL e1 λ ρ1 H1 a xs x1 R1 na oa ea r1=>?_
  refine hQ (ρ1 ++ [a]) H1 _ (x1.name na) (R1.name oa ea r1) ?_
  simp only[RD]
  exact⟨a,by rw[<- R1.len];simp,rfl⟩
end
end L2
namespace L2
open PySem PySem.Spec PyProof.Rows
section
variable{K:PySem.W.Frag}{ρ ρ':List Addr}{H H':Hp}{hd hd':Hd}
noncomputable def fI(g:Int->Int->Option I):D->D->Hd->Option (D × Hd)
  | .im (.int i),.im (.int j),hd=>(g i j).map (.im ·,hd)
  | _,_,_=>none
theorem La{C:Int->Int->Prop}{g:Int->Int->V}{f:Int->Int->Option I}(h:∀ i j z,f i j=some z->C i j/\∀ H,RI K H z (g i j)):RB K (rI C g) (fI f):=by
  intro ρ H hd d e v u Q z hd' hR h1 h2 hf hQ
  unfold fI at hf
  split at hf
  . simp only[RD,RI]at h1 h2
    subst h1 h2
    obtain⟨w,e1,e2⟩:=Option.map_eq_some_iff.mp hf
    cases e2
    obtain⟨c,r⟩:=h _ _ _ e1
    exact⟨_,_,rfl,rfl,c,hQ ρ H _ .refl hR (by simpa only[RD]using r H)⟩
  . cases hf
theorem Hs{g:Int->Int->V}{f:Int->Int->I}(h:∀ i j H,RI K H (f i j) (g i j)):RB K (rI0 g) (fI λ i j=>some (f i j)):=by
  intro ρ H hd d e v u Q z hd' hR h1 h2 hf hQ
  unfold fI at hf
  split at hf
  . simp only[RD,RI]at h1 h2
    subst h1 h2
    cases hf
    exact⟨_,_,rfl,rfl,hQ ρ H _ .refl hR (by simpa only[RD]using h _ _ H)⟩
  . cases hf
noncomputable def Gh(f g:D->D->Hd->Option (D × Hd)):D->D->Hd->Option (D × Hd):=λ d e hd=>match f d e hd with
  | some z=>some z
  | none=>g d e hd
theorem Ae{r r':R2}{f g:D->D->Hd->Option (D × Hd)}(h:RB K r f)(h':RB K r' g):RB K (λ x y H Q=>r x y H Q ∨ r' x y H Q) (Gh f g):=by
  intro ρ H hd d e v u Q z hd' hR h1 h2 hf hQ
  unfold Gh at hf
  split at hf
  . next q=>cases hf;exact .inl (h ρ H hd d e v u Q z hd' hR h1 h2 q hQ)
  . exact .inr (h' ρ H hd d e v u Q z hd' hR h1 h2 hf hQ)
noncomputable abbrev Jz:D->D->Hd->Option (D × Hd):=fI λ i j=>some (.int (i + j))
noncomputable abbrev Hz:D->D->Hd->Option (D × Hd):=fI λ i j=>some (.int (i - j))
theorem BW:RB K (rI0 λ i j=>.int (i + j)) Jz:=Hs λ _ _ _=>by simp[RI]
theorem LY:RB K (rI0 λ i j=>.int (i - j)) Hz:=Hs λ _ _ _=>by simp[RI]
open Classical in
noncomputable abbrev Cg:D->D->Hd->Option (D × Hd):=fI λ i j=>if CU i j then some (.int (i * j))else none
theorem C2:RB K (rI CMul λ i j=>.int (i * j)) Cg:=La λ i j z h=>by
  split at h
  . next q=>cases h;exact⟨q,λ _=>by simp[RI]⟩
  . cases h
open Classical in
noncomputable abbrev FT:D->D->Hd->Option (D × Hd):=fI λ i j=>if CV j then some (.int (i % j))else none
theorem E3:RB K (rI (λ _ j=>0 < j) λ i j=>.int (i % j)) FT:=La λ i j z h=>by
  split at h
  . next q=>cases h;exact⟨q,λ _=>by simp[RI]⟩
  . cases h
open Classical in
noncomputable abbrev Kl:D->D->Hd->Option (D × Hd):=fI λ i j=>if Km j then some (.int (i / j))else none
theorem Jk:RB K (rI X2 λ i j=>.int (i / j)) Kl:=La λ i j z h=>by
  split at h
  . next q=>cases h;exact⟨q,λ _=>by simp[RI]⟩
  . cases h
open Classical in
noncomputable abbrev WU:D->D->Hd->Option (D × Hd):=fI λ i j=>if Np i j then some (.int (i ^ j.toNat))else none
theorem VS:RB K (rI X1 λ i j=>.int (i ^ j.toNat)) WU:=La λ i j z h=>by
  split at h
  . next q=>cases h;exact⟨q,λ _=>by simp[RI]⟩
  . cases h
noncomputable abbrev gLt:D->D->Hd->Option (D × Hd):=fI λ i j=>some (.bl (decide (i < j)))
noncomputable abbrev gLe:D->D->Hd->Option (D × Hd):=fI λ i j=>some (.bl (decide (i <= j)))
noncomputable abbrev gGt:D->D->Hd->Option (D × Hd):=fI λ i j=>some (.bl (decide (j < i)))
noncomputable abbrev gGe:D->D->Hd->Option (D × Hd):=fI λ i j=>some (.bl (decide (j <= i)))
theorem Hr:RB K (rI0 λ i j=>.bl (decide (i < j))) gLt:=Hs λ _ _ _=>by simp[RI]
theorem XH:RB K (rI0 λ i j=>.bl (decide (i <= j))) gLe:=Hs λ _ _ _=>by simp[RI]
theorem Nj:RB K (rI0 λ i j=>.bl (decide (j < i))) gGt:=Hs λ _ _ _=>by simp[RI]
theorem XL:RB K (rI0 λ i j=>.bl (decide (j <= i))) gGe:=Hs λ _ _ _=>by simp[RI]
noncomputable def scI:I->Option V
  | .non=>some .non
  | .bl b=>some (.bl b)
  | .int i=>some (.int i)
  | .str x=>some (.str x)
  | .tup _=>none
theorem Iz{i:I}{v w:V}(e:scI i=some w)(h:RI K H i v):v=w:=by
  cases i with
  | tup _=>simp[scI]at e
  | _=>simp only[scI,Option.some.injEq]at e;subst e;simpa only[RI]using h
noncomputable def Fh(neg:Bool):D->D->Hd->Option (D × Hd)
  | .im i,.im j,hd=>match scI i,scI j with
    | some x,some y=>if LL x y=true then some (.im (.bl (if neg then !decide (x=y)else decide (x=y))),hd)else none
    | _,_=>none
  | _,_,_=>none
theorem EV:RB K rEq (Fh false):=by
  intro ρ H hd d e v u Q z hd' hR h1 h2 hf hQ
  unfold Fh at hf
  split at hf
  . split at hf
    . next x y e1 e2=>
      split at hf
      . next s=>
        cases hf
        simp only[RD]at h1 h2
        rw[Iz e1 h1,Iz e2 h2]
        exact⟨s,hQ ρ H _ .refl hR (by simp[RD,RI])⟩
      . cases hf
    . cases hf
  . cases hf
theorem HG:RB K rNe (Fh true):=by
  intro ρ H hd d e v u Q z hd' hR h1 h2 hf hQ
  unfold Fh at hf
  split at hf
  . split at hf
    . next x y e1 e2=>
      split at hf
      . next s=>
        cases hf
        simp only[RD]at h1 h2
        rw[Iz e1 h1,Iz e2 h2]
        exact⟨s,hQ ρ H _ .refl hR (by simp[RD,RI])⟩
      . cases hf
    . cases hf
  . cases hf
mutual
noncomputable def I.py:I->PyData
  | .non=>.none
  | .bl b=>.bool b
  | .int i=>.int i
  | .str x=>.str x
  | .tup ds=>.tuple (I.pys ds)
noncomputable def I.pys:List I->List PyData
  | []=>[]
  | d :: ds=>I.py d :: I.pys ds
end
mutual
theorem RI.rep:∀ {i:I} {v:V},RI K H i v->Rep K H i.py v
  | .non,v,h=>by simpa only[RI,I.py,Rep]using h
  | .bl _,v,h=>by simpa only[RI,I.py,Rep]using h
  | .int _,v,h=>by simpa only[RI,I.py,Rep]using h
  | .str _,v,h=>by simpa only[RI,I.py,Rep]using h
  | .tup ds,v,h=>by
    simp only[RI]at h
    obtain⟨a,xs,e,q,r⟩:=h
    simp only[I.py,Rep]
    exact⟨a,xs,e,q,RIs.rep r⟩
theorem RIs.rep:∀ {i:List I} {v:List V},RIs K H i v->DF K H (I.pys i) v
  | [],v,h=>by simpa only[RIs,I.pys,DF]using h
  | d :: ds,v,h=>by
    simp only[RIs]at h
    obtain⟨x,r,e,q,z⟩:=h
    simp only[I.pys,DF]
    exact⟨x,r,e,q.rep,RIs.rep z⟩
end
noncomputable def pyD(hd:Hd):D->Option PyData
  | .im i=>some i.py
  | .mu n=>match hd[n]? with
    | some (.lst ds)=>(BZ ds).map λ is=>.list (I.pys is)
    | _=>none
  | .ro ns=>some (.list (I.pys (ns.map I.int)))
  | _=>none
theorem Fv{d:D}{v:V}{p:PyData}(hR:RH K ρ H hd)(h:RD K ρ H d v)(e:pyD hd d=some p):Rep K H p v:=by
  cases d with
  | im i=>simp only[pyD,Option.some.injEq]at e;subst e;simp only[RD]at h;exact h.rep
  | mu n=>
    simp only[pyD]at e
    simp only[RD]at h
    obtain⟨a,hn,rfl⟩:=h
    split at e
    . next q=>
      obtain⟨is,e1,rfl⟩:=Option.map_eq_some_iff.mp e
      obtain⟨xs,e2,e3⟩:=hR.lst hn q
      rw[Gj e1]at e3
      simp only[Rep]
      exact⟨a,xs,rfl,SqL.of e2,e3.is.rep⟩
    . cases e
  | ro ns=>
    simp only[pyD,Option.some.injEq]at e;subst e
    obtain⟨a,xs,rfl,q,r⟩:=h.lst hR (hd:=hd) (ds:=ns.map λ n=>.im (.int n)) rfl
    simp only[Rep]
    refine⟨a,xs,rfl,q,RIs.rep (RDs.is (ρ:=ρ) ?_)⟩
    rw[List.map_map]
    exact r
  | tm _=>simp[pyD]at e
noncomputable def Jy(neg:Bool):D->D->Hd->Option (D × Hd):=λ d e hd=>match pyD hd d,pyD hd e with
  | some x,some y=>if x.canLay0=true/\y.canLay0=true/\min x.depth y.depth <= 60 then some (.im (.bl (if neg then !PyData.eqv x y else PyData.eqv x y)),hd)else none
  | _,_=>none
theorem EW:RB K (RK K) (Jy false):=by
  intro ρ H hd d e v u Q z hd' hR h1 h2 hf hQ
  unfold Jy at hf
  split at hf
  . next e1 e2=>
    split at hf
    . next c=>cases hf;exact⟨_,_,Fv hR h1 e1,Fv hR h2 e2,c.1,c.2.1,c.2.2,hQ ρ H _ .refl hR (by simp[RD,RI])⟩
    . cases hf
  . cases hf
theorem HH:RB K (R8 K) (Jy true):=by
  intro ρ H hd d e v u Q z hd' hR h1 h2 hf hQ
  unfold Jy at hf
  split at hf
  . next e1 e2=>
    split at hf
    . next c=>cases hf;exact⟨_,_,Fv hR h1 e1,Fv hR h2 e2,c.1,c.2.1,c.2.2,hQ ρ H _ .refl hR (by simp[RD,RI])⟩
    . cases hf
  . cases hf
noncomputable abbrev gEq:=Gh (Fh false) (Jy false)
noncomputable abbrev gNe:=Gh (Fh true) (Jy true)
noncomputable def gIx:D->D->Hd->Option (D × Hd)
  | d,.im (.int i),hd=>(B2 hd d).bind λ ds=>(atI ds i).map (·,hd)
  | _,_,_=>none
theorem NK{α β:Type}{xs:List α}{ys:List β}{i:Int}{y:β}(h:xs.length=ys.length)(e:atI ys i=some y):∃ (j:Nat),ys[j]? = some y/\∀ x,xs[j]? = some x->atI xs i=some x:=by
  unfold atI at e
  obtain⟨j,e1,e2⟩:=Option.bind_eq_some_iff.mp e
  exact⟨j,e2,λ x q=>by unfold atI;rw[h,e1];exact q⟩
noncomputable def Kh(K:PySem.W.Frag):R2:=λ x y H Q=>RJ K x y H Q ∨ R9 K x y H Q
theorem XI:RB K (Kh K) gIx:=by
  intro ρ H hd d e v u Q z hd' hR h1 h2 hf hQ
  unfold gIx at hf
  split at hf
  . obtain⟨ds,e1,hf⟩:=Option.bind_eq_some_iff.mp hf
    obtain⟨w,e2,e3⟩:=Option.map_eq_some_iff.mp hf
    cases e3
    obtain⟨a,xs,rfl,q,r⟩:=h1.seq hR e1
    simp only[RD,RI]at h2
    subst h2
    obtain⟨j,j1,j2⟩:=NK r.len e2
    obtain⟨x,x1,x2⟩:=r.get j1
    rcases q with q|q
    . exact .inl ⟨a,xs,_,x,rfl,rfl,q,j2 x x1,hQ ρ H x .refl hR x2⟩
    . exact .inr ⟨a,xs,_,x,rfl,rfl,q,j2 x x1,hQ ρ H x .refl hR x2⟩
  . cases hf
noncomputable def EH(xs:List D)(lo hi:Option Int):List D:=(xs.drop (HT.sIx xs.length 0 lo)).take (HT.sIx xs.length xs.length hi - HT.sIx xs.length 0 lo)
theorem Ud{ds:List D}{xs:List V}{lo hi:Option Int}(r:RDs K ρ H ds xs):RDs K ρ H (EH ds lo hi) (Ii xs lo hi):=by
  unfold EH Ii
  rw[r.len]
  exact(r.drop _).take _
noncomputable abbrev MO1:=Ls->Hd->Option (Option Int × Hd)
noncomputable def RO1(K:PySem.W.Frag)(t:TO)(m:MO1):Prop:=∀ (ρ:List Addr) (σ:St) (H:Hp) (hd:Hd) (ls:Ls) (Q:Option Int->Hp->Prop) (d:Option Int) (hd':Hd),RH K ρ H hd->RL K ρ H ls σ->m ls hd=some (d,hd') ->
  (∀ ρ' H',Ext ρ H ρ' H'->RH K ρ' H' hd'->Q d H')->t σ H Q
noncomputable def Dg:MO1:=λ _ hd=>some (none,hd)
noncomputable def Ev(m:ME):MO1:=λ ls hd=>(m ls hd).bind λ p=>match p.1 with
  | .im (.int i)=>some (some i,p.2)
  | _=>none
theorem TL:RO1 K Jh Dg:=by
  intro ρ σ H hd ls Q d hd' hR hL hm hQ
  cases hm
  exact hQ ρ H .refl hR
theorem TK{t:TE}{m:ME}(h:RE K t m):RO1 K (NV t) (Ev m):=by
  intro ρ σ H hd ls Q d hd' hR hL hm hQ
  obtain⟨⟨d1,h1⟩,e1,hm⟩:=Option.bind_eq_some_iff.mp hm
  dsimp only at hm
  split at hm
  . cases hm
    exact h ρ σ H hd ls _ _ _ hR hL e1 λ ρ1 H1 v x1 R1 r1=>⟨_,by simpa only[RD,RI]using r1,hQ ρ1 H1 x1 R1⟩
  . cases hm
noncomputable def YC(m:ME)(ml mh:MO1):ME:=λ ls hd=>(m ls hd).bind λ p=>(ml ls p.2).bind λ l=>(mh ls l.2).bind λ h=>(Ad p.1).bind λ ds=>
  if ¬ (HT.sIx ds.length 0 l.1=0/\HT.sIx ds.length ds.length h.1=ds.length)then some (Ai (EH ds l.1 h.1),h.2)else none
noncomputable def GV(m:ME)(ml mh:MO1):MA:=λ ls hd=>(m ls hd).bind λ p=>(ml ls p.2).bind λ l=>(mh ls l.2).bind λ h=>(Az h.2 p.1).bind λ ds=>some (EH ds l.1 h.1,h.2)
theorem VB{t:TE}{tl th:TO}{m:ME}{ml mh:MO1}(h:RE K t m)(hl:RO1 K tl ml)(hh:RO1 K th mh):RN K (tSl (Nl K) t tl th) (GV m ml mh):=by
  intro ρ σ H hd ls Q d hd' hR hL hm hQ
  obtain⟨⟨d1,h1⟩,e1,hm⟩:=Option.bind_eq_some_iff.mp hm
  obtain⟨⟨d2,h2⟩,e2,hm⟩:=Option.bind_eq_some_iff.mp hm
  obtain⟨⟨d3,h3⟩,e3,hm⟩:=Option.bind_eq_some_iff.mp hm
  obtain⟨ds,e4,hm⟩:=Option.bind_eq_some_iff.mp hm
  dsimp only at e2 e3 e4 hm
  cases hm
  refine h ρ σ H hd ls _ d1 h1 hR hL e1 λ ρ1 H1 v1 x1 R1 r1=>?_
  refine hl ρ1 σ H1 h1 ls _ d2 h2 R1 (hL.ext hR x1) e2 λ ρ2 H2 x2 R2=>?_
  refine hh ρ2 σ H2 h2 ls _ d3 _ R2 (hL.ext hR (x1.trans R1 x2)) e3 λ ρ3 H3 x3 R3=>?_
  obtain⟨a,xs,rfl,q,r⟩:=RD.lst R3 ((r1.ext R1 x2).ext R2 x3) e4
  refine⟨a,xs,rfl,q,λ p hp=>?_⟩
  obtain⟨R4,x4⟩:=R3.hid (ho:=.lst (Ii xs d2 d3)) hp
  have x123:=(x1.trans R1 x2).trans R2 x3
  exact hQ ρ3 _ p _ (x123.trans R3 x4) R4 (x123.none hR hp R3) (R3.out hp) Am ((Ud r).ext R3 x4)
noncomputable def mCB(f:List D->Hd->Option (D × Hd))(ma:MA):ME:=λ ls hd=>(ma ls hd).bind λ p=>f p.1 p.2
theorem SL{r:List V->Hp->VK->Prop}{f:List D->Hd->Option (D × Hd)}{t:TA}{m:MA}(hr:RF K r f)(h:RA K t m):RE K (tCB r t) (mCB f m):=by
  intro ρ σ H hd ls Q d hd' hR hL hm hQ
  obtain⟨⟨d1,h1⟩,e1,hm⟩:=Option.bind_eq_some_iff.mp hm
  refine h ρ σ H hd ls _ d1 h1 hR hL e1 λ ρ1 H1 v1 x1 R1 r1=>?_
  exact hr ρ1 H1 h1 d1 v1 Q d hd' R1 r1 hm λ ρ' H' w x2 R2 r2=>hQ ρ' H' w (x1.trans R1 x2) R2 r2
noncomputable def f1(tp:Bool)(g:List D->Option D):List D->Hd->Option (D × Hd)
  | [d],hd=>((if tp then B2 hd d else Az hd d)).bind λ ds=>(g ds).map (·,hd)
  | _,_=>none
theorem DK{tp:Bool}{r:List V->Hp->VK->Prop}{g:List D->Option D}(h:RG K tp r g):RF K r (f1 tp g):=by
  intro ρ H hd ds vs Q z hd' hR h1 hf hQ
  unfold f1 at hf
  split at hf
  . next d hd'=>
    obtain⟨es,e1,hf⟩:=Option.bind_eq_some_iff.mp hf
    obtain⟨w,e2,e3⟩:=Option.map_eq_some_iff.mp hf
    cases e3
    simp only[RDs]at h1
    obtain⟨x,r,rfl,rx,rfl⟩:=h1
    cases tp with
    | true=>
      rw[if_pos rfl]at e1
      obtain⟨a,xs,rfl,q,rr⟩:=rx.seq hR e1
      exact h ρ H hd a xs es Q z hR (q.imp id λ q=>⟨rfl,q⟩) rr e2 λ H' w x R r=>hQ ρ H' w x R r
    | false=>
      rw[if_neg Bool.false_ne_true]at e1
      obtain⟨a,xs,rfl,q,rr⟩:=rx.lst hR e1
      exact h ρ H hd a xs es Q z hR (.inl q) rr e2 λ H' w x R r=>hQ ρ H' w x R r
  . cases hf
noncomputable def Cp(g:List D->Option D)(ml:MA):ME:=λ ls hd=>(ml ls hd).bind λ p=>(g p.1).map (·,p.2)
theorem Ol{tp:Bool}{r:List V->Hp->VK->Prop}{g:List D->Option D}{t:TE}{m:MA}(hr:RG K tp r g)(h:RN K t m):RE K (tCB r (Bp t Ck)) (Cp g m):=by
  intro ρ σ H hd ls Q d hd' hR hL hm hQ
  obtain⟨⟨d1,h1⟩,e1,hm⟩:=Option.bind_eq_some_iff.mp hm
  obtain⟨w,e2,e3⟩:=Option.map_eq_some_iff.mp hm
  cases e3
  refine h ρ σ H hd ls _ d1 _ hR hL e1 λ ρ1 H1 a xs x1 R1 na oa ea r1=>?_
  exact hr ρ1 H1 _ a xs d1 Q d R1 (.inl (SqL.of ea)) r1 e2 λ H' w x R r=>hQ ρ1 H' w (x1.trans R1 x) R r
noncomputable def CN(ds:List D):Option D:=some (.im (.int ds.length))
theorem Cz:RG K true (VU K) CN:=by
  intro ρ H hd a xs ds Q z hR q r e hQ
  cases e
  refine⟨a,xs,rfl,q.imp id λ q=>q.2,?_⟩
  rw[r.len]
  exact hQ H _ .refl hR (by simp[RD,RI])
noncomputable def Bo(ds:List D):Option D:=some (Ai ds)
theorem CG:RG K true (Le K) Bo:=by
  intro ρ H hd a xs ds Q z hR q r e hQ
  cases e
  refine⟨a,xs,rfl,?_⟩
  rcases q with q|⟨_,q⟩
  . refine .inl ⟨q,λ p hp=>?_⟩
    obtain⟨R2,x2⟩:=hR.hid (ho:=.tup xs) hp
    exact hQ _ _ x2 R2 (Cm (SqT.of Am) (r.ext hR x2))
  . exact .inr ⟨q,hQ H _ .refl hR (Cm q r)⟩
noncomputable def Em(ds:List D):Option D:=(BY ds).map λ ns=>.im (.int ns.sum)
noncomputable def Y9(K:PySem.W.Frag):List V->Hp->VK->Prop:=λ xs H Q=>SO K xs H Q ∨ SN K xs H Q
theorem HE:RG K true (Y9 K) Em:=by
  intro ρ H hd a xs ds Q z hR q r e hQ
  obtain⟨ns,e1,rfl⟩:=Option.map_eq_some_iff.mp e
  rw[GZ e1]at r
  have:=Hq r
  subst this
  rcases q with q|⟨_,q⟩
  . exact .inl ⟨a,ns,rfl,q,hQ H _ .refl hR (by simp[RD,RI])⟩
  . exact .inr ⟨a,ns,rfl,q,hQ H _ .refl hR (by simp[RD,RI])⟩
noncomputable def Rv(ds:List D):Option D:=(DM ds).map λ bs=>.im (.bl (bs.all id))
noncomputable def Ru(ds:List D):Option D:=(DM ds).map λ bs=>.im (.bl (bs.any id))
theorem VL:RG K false (VW K) Rv:=by
  intro ρ H hd a xs ds Q z hR q r e hQ
  obtain⟨ns,e1,rfl⟩:=Option.map_eq_some_iff.mp e
  rw[K3 e1]at r
  have:=LX r
  subst this
  rcases q with q|⟨q,_⟩
  . exact⟨a,ns,rfl,q,hQ H _ .refl hR (by simp[RD,RI])⟩
  . cases q
theorem VJ:RG K false (VV K) Ru:=by
  intro ρ H hd a xs ds Q z hR q r e hQ
  obtain⟨ns,e1,rfl⟩:=Option.map_eq_some_iff.mp e
  rw[K3 e1]at r
  have:=LX r
  subst this
  rcases q with q|⟨q,_⟩
  . exact⟨a,ns,rfl,q,hQ H _ .refl hR (by simp[RD,RI])⟩
  . cases q
noncomputable def HK:List Int->Int
  | []=>0
  | [x]=>x
  | x :: r=>if HK r > x then HK r else x
theorem KF:∀ {xs:List Int},xs ≠ []->HK xs ∈ xs/\∀ x ∈ xs,x <= HK xs
  | [],h=>absurd rfl h
  | [x],_=>by simp[HK]
  | x :: y :: r,_=>by
    obtain⟨h1,h2⟩:=KF (xs:=y :: r) (by simp)
    rw[HK]
    split
    . next h=>exact⟨List.mem_cons_of_mem _ h1,λ z m=>by rcases List.mem_cons.mp m with rfl|m;omega;exact h2 z m⟩
    . next h=>exact⟨List.mem_cons_self,λ z m=>by rcases List.mem_cons.mp m with rfl|m;omega;exact Int.le_trans (h2 z m) (by omega)⟩
    . simp
noncomputable def Rt(ds:List D):Option D:=(BY ds).bind λ ns=>if ns=[]then none else some (.im (.int (HK ns)))
noncomputable def YA(K:PySem.W.Frag):List V->Hp->VK->Prop:=λ xs H Q=>SR K xs H Q ∨ SQ K xs H Q
theorem G4{α:Type}{xs:List α}(h:xs ≠ []):0 < xs.length:=by cases xs <;> simp_all
theorem VI:RG K true (YA K) Rt:=by
  intro ρ H hd a xs ds Q z hR q r e hQ
  obtain⟨ns,e1,e⟩:=Option.bind_eq_some_iff.mp e
  split at e
  . cases e
  . next hn=>
    cases e
    rw[GZ e1]at r
    have:=Hq r
    subst this
    have u:∀ M:Int,M ∈ ns->(∀ x ∈ ns,x <= M)->M=HK ns:=λ M m1 m2=>by
      obtain⟨n1,n2⟩:=KF hn
      have:=n2 M m1;have:=m2 _ n1;omega
    rcases q with q|⟨_,q⟩
    . exact .inl ⟨a,ns,rfl,q,G4 hn,λ M m1 m2=>by rw[u M m1 m2];exact hQ H _ .refl hR (by simp[RD,RI])⟩
    . exact .inr ⟨a,ns,rfl,q,G4 hn,λ M m1 m2=>by rw[u M m1 m2];exact hQ H _ .refl hR (by simp[RD,RI])⟩
noncomputable def Gg:List D->Hd->Option (D × Hd)
  | [.im (.int i),.im (.int j)],hd=>some (.im (.int (if j > i then j else i)),hd)
  | _,_=>none
noncomputable def JW:List D->Hd->Option (D × Hd)
  | [.im (.int i),.im (.int j)],hd=>some (.im (.int (if j < i then j else i)),hd)
  | _,_=>none
theorem TY:RF K (λ xs H Q=>∃ i j,xs=[.int i,.int j]/\Q (.int (if j > i then j else i)) H) Gg:=by
  intro ρ H hd ds vs Q z hd' hR h1 hf hQ
  unfold Gg at hf
  split at hf
  . cases hf
    simp only[RDs,RD,RI]at h1
    obtain⟨x,r,rfl,rfl,y,r2,rfl,rfl,rfl⟩:=h1
    exact⟨_,_,rfl,hQ ρ H _ .refl hR (by simp[RD,RI])⟩
  . cases hf
theorem TX:RF K (λ xs H Q=>∃ i j,xs=[.int i,.int j]/\Q (.int (if j < i then j else i)) H) JW:=by
  intro ρ H hd ds vs Q z hd' hR h1 hf hQ
  unfold JW at hf
  split at hf
  . cases hf
    simp only[RDs,RD,RI]at h1
    obtain⟨x,r,rfl,rfl,y,r2,rfl,rfl,rfl⟩:=h1
    exact⟨_,_,rfl,hQ ρ H _ .refl hR (by simp[RD,RI])⟩
  . cases hf
noncomputable def M9:List D->Hd->Option (D × Hd)
  | [.im (.int i)],hd=>some (.im (.int (if i < 0 then -i else i)),hd)
  | _,_=>none
theorem VM:RF K (λ xs H Q=>∃ i,xs=[.int i]/\Q (.int (if i < 0 then -i else i)) H) M9:=by
  intro ρ H hd ds vs Q z hd' hR h1 hf hQ
  unfold M9 at hf
  split at hf
  . cases hf
    simp only[RDs,RD,RI]at h1
    obtain⟨x,r,rfl,rfl,rfl⟩:=h1
    exact⟨_,rfl,hQ ρ H _ .refl hR (by simp[RD,RI])⟩
  . cases hf
noncomputable def Xb(ma:ME):MA:=λ ls hd=>(ma ls hd).bind λ p=>(B2 p.2 p.1).map (·,p.2)
noncomputable def JM(ml:MA):MA:=ml
theorem Qr{t:TE}{m:MA}(h:RN K t m):RN K (tCB (Jl K) (Bp t Ck)) (JM m):=by
  intro ρ σ H hd ls Q d hd' hR hL hm hQ
  refine h ρ σ H hd ls _ d _ hR hL hm λ ρ1 H1 a xs x1 R1 na oa ea r1=>?_
  refine⟨a,xs,rfl,.inl (SqL.of ea),λ l hl=>?_⟩
  obtain⟨R2,x2⟩:=R1.hid (ho:=.lst xs) hl
  exact hQ ρ1 _ l xs (x1.trans R1 x2) R2 (x1.none hR hl R1) (R1.out hl) Am (r1.ext R1 x2)
open Classical in
noncomputable def GA:List D->Hd->Option (D × Hd)
  | [.im (.int i)],hd=>if Qe i.natAbs.log2 then some (.im (.str (toString i)),hd)else none
  | _,_=>none
theorem LV:RF K (λ xs H Q=>∃ i,xs=[.int i]/\i.natAbs.log2 < 1920/\Q (.str (toString i)) H) GA:=by
  intro ρ H hd ds vs Q z hd' hR h1 hf hQ
  unfold GA at hf
  split at hf
  . split at hf
    . next c=>
      cases hf
      simp only[RDs,RD,RI]at h1
      obtain⟨x,r,rfl,rfl,rfl⟩:=h1
      exact⟨_,rfl,c,hQ ρ H _ .refl hR (by simp[RD,RI])⟩
    . cases hf
  . cases hf
noncomputable def Gc:I->Option V
  | .non=>some .non
  | .bl b=>some (.bl b)
  | .int i=>some (.int i)
  | .str x=>some (.str x)
  | .tup _=>none
noncomputable def Dk:List D->Option (List V)
  | []=>some []
  | .im i :: r=>(Gc i).bind λ v=>(Dk r).map (v :: ·)
  | _ :: _=>none
theorem M6{i:I}{v w:V}(e:Gc i=some w)(h:RI K H i v):v=w/\EQ w=true:=by
  cases i with
  | tup _=>simp[Gc]at e
  | _=>simp only[Gc,Option.some.injEq]at e;subst e;exact⟨by simpa only[RI]using h,rfl⟩
theorem KK:∀ {ds:List D} {vs ws:List V},Dk ds=some ws->RDs K ρ H ds vs->vs=ws/\ws.all EQ=true
  | [],vs,ws,e,h=>by simp[Dk]at e;subst e;simp only[RDs]at h;subst h;exact⟨rfl,rfl⟩
  | .im i :: r,vs,ws,e,h=>by
    simp only[Dk]at e
    obtain⟨v,e1,e⟩:=Option.bind_eq_some_iff.mp e
    obtain⟨us,e2,rfl⟩:=Option.map_eq_some_iff.mp e
    simp only[RDs,RD]at h
    obtain⟨x,y,rfl,h1,h2⟩:=h
    obtain⟨rfl,f1⟩:=M6 e1 h1
    obtain⟨rfl,f2⟩:=KK e2 h2
    exact⟨rfl,by simp[f1,f2]⟩
  | .mu _ :: _,_,_,e,_=>by simp[Dk]at e
  | .tm _ :: _,_,_,e,_=>by simp[Dk]at e
  | .ro _ :: _,_,_,e,_=>by simp[Dk]at e
noncomputable def gIn(neg:Bool):D->D->Hd->Option (D × Hd)
  | .im i,e,hd=>(Gc i).bind λ x=>(B2 hd e).bind λ ds=>(Dk ds).map λ xs=>(.im (.bl (if neg then !inV x xs else inV x xs)),hd)
  | _,_,_=>none
theorem XJ{neg:Bool}:RB K (rIn K neg) (gIn neg):=by
  intro ρ H hd d e v u Q z hd' hR h1 h2 hf hQ
  unfold gIn at hf
  split at hf
  . obtain⟨x,e1,hf⟩:=Option.bind_eq_some_iff.mp hf
    obtain⟨ds,e2,hf⟩:=Option.bind_eq_some_iff.mp hf
    obtain⟨xs,e3,e4⟩:=Option.map_eq_some_iff.mp hf
    cases e4
    simp only[RD]at h1
    obtain⟨rfl,f1⟩:=M6 e1 h1
    obtain⟨a,ys,rfl,q,r⟩:=h2.seq hR e2
    obtain⟨rfl,f2⟩:=KK e3 r
    exact⟨a,ys,rfl,q,f1,f2,hQ ρ H _ .refl hR (by simp[RD,RI])⟩
  . cases hf
noncomputable def mMt(f:D->List D->Hd->Option (D × Hd))(mo:ME)(ma:MA):ME:=λ ls hd=>(mo ls hd).bind λ p=>match Az p.2 p.1 with
  | some _=>(ma ls p.2).bind λ q=>f p.1 q.1 q.2
  | none=>none
noncomputable def RM(K:PySem.W.Frag)(r:V->List V->Hp->VK->Prop)(f:D->List D->Hd->Option (D × Hd)):Prop:=∀ (ρ:List Addr) (H:Hp) (hd:Hd) (d:D) (v:V) (ds:List D) (vs:List V) (Q:VK) (z:D) (hd':Hd),RH K ρ H hd->RD K ρ H d v->RDs K ρ H ds vs->f d ds hd=some (z,hd') ->
  (∀ ρ' H' w,Ext ρ H ρ' H'->RH K ρ' H' hd'->RD K ρ' H' z w->Q w H')->r v vs H Q
theorem XF{r:V->List V->Hp->VK->Prop}{f:D->List D->Hd->Option (D × Hd)}{to:TE}{t:TA}{mo:ME}{ma:MA}(hr:RM K r f)(ho:RE K to mo)(ha:RA K t ma):RE K (tBM K "list" r to t) (mMt f mo ma):=by
  intro ρ σ H hd ls Q d hd' hR hL hm hQ
  obtain⟨⟨d1,h1⟩,e1,hm⟩:=Option.bind_eq_some_iff.mp hm
  dsimp only at hm
  split at hm
  . next e=>
    obtain⟨⟨d2,h2⟩,e2,hm⟩:=Option.bind_eq_some_iff.mp hm
    refine ho ρ σ H hd ls _ d1 h1 hR hL e1 λ ρ1 H1 v x1 R1 r1=>⟨?_,?_⟩
    . obtain⟨a,xs,rfl,q,_⟩:=r1.lst R1 e
      exact .inl ⟨rfl,xs,q⟩
    . exact ha ρ1 σ H1 h1 ls _ d2 h2 R1 (hL.ext hR x1) e2 λ ρ2 H2 vs x2 R2 r2=>hr ρ2 H2 h2 d1 v d2 vs Q d hd' R2 (r1.ext R1 x2) r2 hm λ ρ' H' w x3 R3 r3=>hQ ρ' H' w ((x1.trans R1 x2).trans R2 x3) R3 r3
  . cases hm
open Classical in
noncomputable def Bz:D->List D->Hd->Option (D × Hd)
  | .mu n,[x],hd=>match hd[n]? with
    | some (.lst ds)=>if Ex ds.length then some (.im .non,hd.set n (.lst (ds ++ [x])))else none
    | _=>none
  | _,_,_=>none
theorem ET:RM K Mx Bz:=by
  intro ρ H hd d v ds vs Q z hd' hR h1 h2 hf hQ
  unfold Bz at hf
  split at hf
  . split at hf
    . next q=>
      split at hf
      . next c=>
        cases hf
        simp only[RD]at h1
        obtain⟨a,hn,rfl⟩:=h1
        simp only[RDs]at h2
        obtain⟨x,r,rfl,rx,rfl⟩:=h2
        obtain⟨xs,e1,e2⟩:=hR.lst hn q
        obtain⟨R2,x2⟩:=hR.put hn (o:=.lst (_ ++ [_])) (ho:=.lst (xs ++ [x])) ⟨_,rfl,e2.app (.cons rx .nil)⟩
        exact⟨a,xs,x,rfl,rfl,e1,by rw[e2.len];exact c,hQ ρ _ _ x2 R2 (by simp[RD,RI])⟩
      . cases hf
    . cases hf
  . cases hf
end
end L2
namespace L2
open PySem PySem.Spec PyProof.Rows
section
variable{K:PySem.W.Frag}{ρ ρ':List Addr}{H H':Hp}{hd hd':Hd}
noncomputable def B5:MS:=λ ls hd=>some (.nx ls,hd)
theorem TC:RS K NW B5:=by
  intro ρ σ H hd ls E f hd' hR hL hm hQ
  cases hm
  exact hQ ρ H .refl hR σ hL
noncomputable def AE(a b:MS):MS:=λ ls hd=>(a ls hd).bind λ p=>match p.1 with
  | .nx ls1=>b ls1 p.2
  | f=>some (f,p.2)
theorem V6{t u:TS}{a b:MS}(ha:RS K t a)(hb:RS K u b):RS K (QP t u) (AE a b):=by
  intro ρ σ H hd ls E f hd' hR hL hm hQ
  obtain⟨⟨f1,h1⟩,e1,hm⟩:=Option.bind_eq_some_iff.mp hm
  refine ha ρ σ H hd ls { E with nx:=u E } f1 h1 hR hL e1 λ ρ1 H1 x1 R1=>?_
  cases f1 with
  | nx ls1=>
    intro σ1 L1
    exact hb ρ1 σ1 H1 h1 ls1 E f hd' R1 L1 hm λ ρ2 H2 x2 R2=>hQ ρ2 H2 (x1.trans R1 x2) R2
  | bk ls1=>cases hm;exact hQ ρ1 H1 x1 R1
  | ct ls1=>cases hm;exact hQ ρ1 H1 x1 R1
  | rt d=>cases hm;exact hQ ρ1 H1 x1 R1
noncomputable def W9:MS:=λ ls hd=>some (.bk ls,hd)
noncomputable def Xh:MS:=λ ls hd=>some (.ct ls,hd)
noncomputable def Cr(m:ME):MS:=λ ls hd=>(m ls hd).bind λ p=>some (.nx ls,p.2)
theorem TF{t:TE}{m:ME}(h:RE K t m):RS K (NY t) (Cr m):=by
  intro ρ σ H hd ls E f hd' hR hL hm hQ
  obtain⟨⟨d1,h1⟩,e1,hm⟩:=Option.bind_eq_some_iff.mp hm
  cases hm
  exact h ρ σ H hd ls _ d1 _ hR hL e1 λ ρ1 H1 v x1 R1 r1=>hQ ρ1 H1 x1 R1 σ (hL.ext hR x1)
noncomputable def AZ(m:ME):MS:=λ ls hd=>(m ls hd).bind λ p=>some (.rt p.1,p.2)
theorem V7{t:TE}{m:ME}(h:RE K t m):RS K (QQ t) (AZ m):=by
  intro ρ σ H hd ls E f hd' hR hL hm hQ
  obtain⟨⟨d1,h1⟩,e1,hm⟩:=Option.bind_eq_some_iff.mp hm
  cases hm
  exact h ρ σ H hd ls _ d1 _ hR hL e1 λ ρ1 H1 v x1 R1 r1=>hQ ρ1 H1 x1 R1 v r1
noncomputable def XY:MS:=λ _ hd=>some (.rt (.im .non),hd)
noncomputable def BM(c:MT)(a b:MS):MS:=λ ls hd=>(c ls hd).bind λ p=>if p.1=true then a ls p.2 else b ls p.2
theorem XD{tc:TT}{t u:TS}{c:MT}{a b:MS}(hc:RT K tc c)(ha:RS K t a)(hb:RS K u b):RS K (QZ tc t u) (BM c a b):=by
  intro ρ σ H hd ls E f hd' hR hL hm hQ
  obtain⟨⟨d1,h1⟩,e1,hm⟩:=Option.bind_eq_some_iff.mp hm
  refine hc ρ σ H hd ls _ d1 h1 hR hL e1 λ ρ1 H1 x1 R1=>?_
  cases d1 with
  | true=>
    rw[if_pos rfl]at hm ⊢
    exact ha ρ1 σ H1 h1 ls E f hd' R1 (hL.ext hR x1) hm λ ρ2 H2 x2 R2=>hQ ρ2 H2 (x1.trans R1 x2) R2
  | false=>
    rw[if_neg Bool.false_ne_true]at hm ⊢
    exact hb ρ1 σ H1 h1 ls E f hd' R1 (hL.ext hR x1) hm λ ρ2 H2 x2 R2=>hQ ρ2 H2 (x1.trans R1 x2) R2
noncomputable def HV:MS:=λ _ _=>none
theorem Ql:RS K L3 HV:=by
  intro ρ σ H hd ls E f hd' hR hL hm hQ
  cases hm
noncomputable abbrev MG:=D->Ls->Hd->Option Ls
noncomputable abbrev MGs:=List D->Ls->Hd->Option Ls
noncomputable def RGt(K:PySem.W.Frag)(t:TG)(m:MG):Prop:=∀ (ρ:List Addr) (σ:St) (H:Hp) (hd:Hd) (ls ls':Ls) (d:D) (v:V) (Q:St->Hp->Prop),RH K ρ H hd->RL K ρ H ls σ->RD K ρ H d v->m d ls hd=some ls' ->
  (∀ σ',RL K ρ H ls' σ'->Q σ' H)->t v σ H Q
noncomputable def MZ(K:PySem.W.Frag)(t:TGs)(m:MGs):Prop:=∀ (ρ:List Addr) (σ:St) (H:Hp) (hd:Hd) (ls ls':Ls) (d:List D) (v:List V) (Q:St->Hp->Prop),RH K ρ H hd->RL K ρ H ls σ->RDs K ρ H d v->m d ls hd=some ls' ->
  (∀ σ',RL K ρ H ls' σ'->Q σ' H)->t v σ H Q
theorem RL.set{ls:Ls}{σ:St}{d:D}{v:V}(h:RL K ρ H ls σ)(i:Nat)(r:RD K ρ H d v):RL K ρ H (ls.set i (some d)) (σ.set i (some v)):=by
  refine⟨by simp[h.len],λ j e q=>?_⟩
  by_cases hij:i=j
  . subst hij
    have hl:i < ls.length:=by
      have:=(List.getElem?_eq_some_iff.mp q).1
      simpa using this
    rw[List.getElem?_set_self hl]at q
    cases q
    exact⟨v,by rw[List.getElem?_set_self (by rw[<- h.len];exact hl)],r⟩
  . rw[List.getElem?_set_ne hij]at q
    obtain⟨w,e1,e2⟩:=h.ob j e q
    exact⟨w,by rw[List.getElem?_set_ne hij];exact e1,e2⟩
noncomputable def AG(i:Nat):MG:=λ d ls _=>some (ls.set i (some d))
theorem Ho{i:Nat}:RGt K (Ew i) (AG i):=by
  intro ρ σ H hd ls ls' d v Q hR hL hd hm hQ
  cases hm
  exact hQ _ (hL.set i hd)
noncomputable def Bi:MGs:=λ ds ls _=>match ds with
  | []=>some ls
  | _=>none
noncomputable def AO(m:MG)(r:MGs):MGs:=λ ds ls hd=>match ds with
  | d :: es=>(m d ls hd).bind λ ls1=>r es ls1 hd
  | []=>none
theorem TW:MZ K S3 Bi:=by
  intro ρ σ H hd ls ls' d v Q hR hL hd hm hQ
  cases d with
  | nil=>
    simp only[RDs]at hd;subst hd
    cases hm
    exact⟨rfl,hQ _ hL⟩
  | cons a b=>cases hm
theorem Qt{t:TG}{u:TGs}{m:MG}{r:MGs}(h:RGt K t m)(h':MZ K u r):MZ K (O7 t u) (AO m r):=by
  intro ρ σ H hd ls ls' d v Q hR hL hd hm hQ
  cases d with
  | nil=>cases hm
  | cons a b=>
    simp only[RDs]at hd
    obtain⟨x,y,rfl,h1,h2⟩:=hd
    obtain⟨ls1,e1,e2⟩:=Option.bind_eq_some_iff.mp hm
    exact⟨x,y,rfl,h ρ σ H _ ls ls1 a x _ hR hL h1 e1 λ σ1 L1=>h' ρ σ1 H _ ls1 ls' b y Q hR L1 h2 e2 hQ⟩
noncomputable def Bh(n:Nat)(r:MGs):MG:=λ d ls hd=>(Ad d).bind λ ds=>if ds.length=n then r ds ls hd else none
theorem VH{n:Nat}{u:TGs}{r:MGs}(h':MZ K u r):RGt K (O6 K n u) (Bh n r):=by
  intro ρ σ H hd ls ls' d v Q hR hL hd hm hQ
  obtain⟨ds,e1,hm⟩:=Option.bind_eq_some_iff.mp hm
  split at hm
  . next c=>
    obtain⟨a,xs,rfl,q,rr⟩:=hd.tup e1
    exact⟨a,xs,rfl,q,by rw[rr.len];exact c,h' ρ σ H _ ls ls' ds xs Q hR hL rr hm hQ⟩
  . cases hm
noncomputable def FS(m:ME)(g:MG):MS:=λ ls hd=>(m ls hd).bind λ p=>(g p.1 ls p.2).map λ ls'=>(.nx ls',p.2)
theorem J0{t:TE}{m:ME}{g:TG}{n:MG}(h:RE K t m)(hg:RGt K g n):RS K (FH t g) (FS m n):=by
  intro ρ σ H hd ls E f hd' hR hL hm hQ
  obtain⟨⟨d1,h1⟩,e1,hm⟩:=Option.bind_eq_some_iff.mp hm
  obtain⟨ls',e2,e3⟩:=Option.map_eq_some_iff.mp hm
  cases e3
  exact h ρ σ H hd ls _ d1 _ hR hL e1 λ ρ1 H1 v x1 R1 r1=>hg ρ1 σ H1 _ ls ls' d1 v _ R1 (hL.ext hR x1) r1 e2 λ σ' L'=>hQ ρ1 H1 x1 R1 σ' L'
noncomputable abbrev AY(i:Nat)(m:ME):MS:=FS m (AG i)
noncomputable def FR(ix:List Nat)(ma:MA):MS:=λ ls hd=>(ma ls hd).bind λ p=>if p.1.length=ix.length then some (.nx ((ix.zip p.1).foldl (λ l q=>l.set q.1 (some q.2)) ls),p.2)else none
theorem V8{i j:Nat}{t:TA}{m:MA}(h:RA K t m):RS K (QU i j t) (FR [i,j] m):=by
  intro ρ σ H hd ls E f hd' hR hL hm hQ
  obtain⟨⟨d1,h1⟩,e1,hm⟩:=Option.bind_eq_some_iff.mp hm
  dsimp only at hm
  split at hm
  . next c=>
    cases hm
    refine h ρ σ H hd ls _ d1 _ hR hL e1 λ ρ1 H1 v x1 R1 r1=>?_
    match d1,c,r1,hQ with
    | [a,b],_,r1,hQ=>
      simp only[RDs]at r1
      obtain⟨x,r,rfl,ra,y,r2,rfl,rb,rfl⟩:=r1
      exact⟨x,y,rfl,hQ ρ1 H1 x1 R1 _ (((hL.ext hR x1).set i ra).set j rb)⟩
  . cases hm
noncomputable def XZ(i j k:Nat)(ma:MA):MS:=FR [k,j,i] (λ ls hd=>(ma ls hd).map λ p=>(p.1.reverse,p.2))
noncomputable abbrev Gd:=List (Nat × List D)
noncomputable abbrev MI:=Ls->Hd->Option ((List D × Gd) × Hd)
noncomputable def GOk(hd:Hd)(g:Gd):Prop:=∀ p ∈ g,hd[p.1]? = some (.lst p.2)
@[simp] theorem Ab(hd:Hd):GOk hd []:=λ p h=>by cases h
noncomputable def Jd(K:PySem.W.Frag)(ρ:List Addr)(H:Hp)(J:It)(ds:List D)(g:Gd):Prop:=∀ (ρ2:List Addr) (H2:Hp) (hd2:Hd),Ext ρ H ρ2 H2->RH K ρ2 H2 hd2->GOk hd2 g ->
  ∀ i:Nat,(i < ds.length->J.go i H2/\∀ x H3,J.yld i H2 x H3->∃ ρ3 d,Ext ρ2 H2 ρ3 H3/\ρ3=ρ2/\RH K ρ3 H3 hd2/\ds[i]? = some d/\RD K ρ3 H3 d x)/\(i=ds.length->J.stop i H2)
noncomputable def RIt(K:PySem.W.Frag)(t:TI)(m:MI):Prop:=∀ (ρ:List Addr) (σ:St) (H:Hp) (hd:Hd) (ls:Ls) (Q:It->Hp->Prop) (d:List D) (g:Gd) (hd':Hd),RH K ρ H hd->RL K ρ H ls σ->m ls hd=some ((d,g),hd') ->
  (∀ ρ' H' J,Ext ρ H ρ' H'->RH K ρ' H' hd'->GOk hd' g->Jd K ρ' H' J d g->Q J H')->t σ H Q
theorem NM{a:Addr}{xs:List V}{ds:List D}(hR:RH K ρ H hd)(q:SqT K H a xs)(r:RDs K ρ H ds xs)(g:Gd):Jd K ρ H (Itt K a) ds g:=by
  intro ρ2 H2 hd2 x2 R2 _ i
  have q2:=(x2.grow hR).sq q
  have r2:=r.ext hR x2
  have uniq:∀ ys,SqT K H2 a ys->True:=λ _ _=>trivial
  refine⟨λ hi=>?_,λ hi=>⟨xs,q2,by rw[r2.len,hi];exact Nat.le_refl _⟩⟩
  have e:ds[i]? = some ds[i]:=by simp[hi]
  obtain⟨x,x1,x3⟩:=r2.get e
  refine⟨⟨xs,x,q2,x1⟩,λ y H3 ⟨e3,hy⟩=>?_⟩
  subst e3
  have:=hy xs q2
  rw[x1]at this
  cases this
  exact⟨ρ2,_,.refl,rfl,R2,e,x3⟩
noncomputable def BS(m:ME):MI:=λ ls hd=>(m ls hd).bind λ p=>(Ad p.1).map λ ds=>((ds,[]),p.2)
theorem Oi{t:TE}{m:ME}(h:RE K t m):RIt K (M4 K t) (BS m):=by
  intro ρ σ H hd ls Q d g hd' hR hL hm hQ
  obtain⟨⟨d1,h1⟩,e1,hm⟩:=Option.bind_eq_some_iff.mp hm
  obtain⟨ds,e2,e3⟩:=Option.map_eq_some_iff.mp hm
  cases e3
  refine h ρ σ H hd ls _ d1 _ hR hL e1 λ ρ1 H1 v x1 R1 r1=>?_
  obtain⟨a,xs,rfl,q,r⟩:=r1.tup e2
  exact⟨a,rfl,⟨xs,q⟩,hQ ρ1 H1 _ x1 R1 (Ab _) (NM R1 q r [])⟩
noncomputable def Ca(m:ME):MI:=λ ls hd=>(m ls hd).bind λ p=>match p.1 with
  | .mu n=>match p.2[n]? with
    | some (.lst ds)=>some ((ds,[(n,ds)]),p.2)
    | _=>none
  | .ro ns=>some ((ns.map λ n=>.im (.int n),[]),p.2)
  | _=>none
theorem Mt{t:TE}{m:ME}(h:RE K t m):RIt K (JT K t) (Ca m):=by
  intro ρ σ H hd ls Q d g hd' hR hL hm hQ
  obtain⟨⟨d1,h1⟩,e1,hm⟩:=Option.bind_eq_some_iff.mp hm
  dsimp only at hm
  split at hm
  . next n=>
    split at hm
    . next ds q=>
      cases hm
      refine h ρ σ H hd ls _ _ _ hR hL e1 λ ρ1 H1 v x1 R1 r1=>?_
      simp only[RD]at r1
      obtain⟨a,hn,rfl⟩:=r1
      obtain⟨xs,e2,e3⟩:=R1.lst hn q
      refine⟨a,rfl,⟨xs,SqL.of e2⟩,hQ ρ1 H1 _ x1 R1 (λ p z=>by simp at z;subst z;exact q) ?_⟩
      intro ρ2 H2 hd2 x2 R2 G2 i
      have q2:=G2 (n,d) (by simp)
      have hn2:ρ2[n]? = some a:=by
        obtain⟨r,rfl,_⟩:=x2.pre
        rw[List.getElem?_append_left (List.getElem?_eq_some_iff.mp hn).1];exact hn
      obtain⟨ys,e4,e5⟩:=R2.lst hn2 q2
      refine⟨λ hi=>?_,λ hi=>⟨ys,SqL.of e4,by rw[e5.len,hi];exact Nat.le_refl _⟩⟩
      have e:d[i]? = some d[i]:=by simp[hi]
      obtain⟨x,y1,y2⟩:=e5.get e
      refine⟨⟨ys,x,SqL.of e4,y1⟩,λ y H3 ⟨e6,hy⟩=>?_⟩
      subst e6
      have:=hy ys (SqL.of e4)
      rw[y1]at this
      cases this
      exact⟨ρ2,_,.refl,rfl,R2,e,y2⟩
    . cases hm
  . next ns=>
    cases hm
    refine h ρ σ H hd ls _ _ _ hR hL e1 λ ρ1 H1 v x1 R1 r1=>?_
    simp only[RD]at r1
    obtain⟨a,rfl,q⟩:=r1
    refine⟨a,rfl,⟨_,q.sq⟩,hQ ρ1 H1 _ x1 R1 (Ab _) ?_⟩
    intro ρ2 H2 hd2 x2 R2 G2 i
    have q2:=(q.grow (x2.grow R1)).sq
    have e5:RDs K ρ2 H2 (ns.map λ n=>.im (.int n)) (ns.map V.int):=G7
    refine⟨λ hi=>?_,λ hi=>⟨_,q2,by rw[e5.len,hi];exact Nat.le_refl _⟩⟩
    have e:(ns.map λ n=>D.im (.int n))[i]? = some ((ns.map λ n=>D.im (.int n))[i]):=by simp[hi]
    obtain⟨x,y1,y2⟩:=e5.get e
    refine⟨⟨_,x,q2,y1⟩,λ y H3 ⟨e6,hy⟩=>?_⟩
    subst e6
    have:=hy _ q2
    rw[y1]at this
    cases this
    exact⟨ρ2,_,.refl,rfl,R2,e,y2⟩
  . cases hm
noncomputable def Lx(ml:MA):MI:=λ ls hd=>(ml ls hd).map λ p=>((p.1,[]),p.2)
noncomputable def Ao(lo:Int):Nat->List D
  | 0=>[]
  | n + 1=>.im (.int lo) :: Ao (lo + 1) n
@[simp] theorem J4(lo:Int)(n:Nat):(Ao lo n).length=n:=by
  induction n generalizing lo with
  | zero=>rfl
  | succ n ih=>simp[Ao,ih]
theorem J5{n:Nat}:∀ {lo:Int} {i:Nat},i < n->(Ao lo n)[i]? = some (.im (.int (lo + i))):=by
  induction n with
  | zero=>intro lo i h;omega
  | succ n ih=>
    intro lo i h
    cases i with
    | zero=>simp[Ao]
    | succ i=>
      simp only[Ao,List.getElem?_cons_succ]
      rw[ih (by omega)]
      congr 3
      push_cast
      omega
theorem Ij{lo:Int}{n:Nat}{g:Gd}:Jd K ρ H (Itr lo n) (Ao lo n) g:=by
  intro ρ2 H2 hd2 x2 R2 G2 i
  refine⟨λ hi=>?_,λ hi=>by rw[hi,J4];exact Nat.le_refl _⟩
  rw[J4]at hi
  refine⟨hi,λ x H3 ⟨e1,e2⟩=>?_⟩
  subst e1 e2
  exact⟨ρ2,_,.refl,rfl,R2,J5 hi,by simp[RD,RI]⟩
open Classical in
noncomputable def Ek(m:MA):MI:=λ ls hd=>(m ls hd).bind λ p=>match p.1 with
  | [.im (.int j)]=>if HD j then some ((Ao 0 j.toNat,[]),p.2)else none
  | _=>none
theorem TU{t:TA}{m:MA}(h:RA K t m):RIt K (O2 t) (Ek m):=by
  intro ρ σ H hd ls Q d g hd' hR hL hm hQ
  obtain⟨⟨d1,h1⟩,e1,hm⟩:=Option.bind_eq_some_iff.mp hm
  dsimp only at hm
  split at hm
  . next j=>
    split at hm
    . next c=>
      cases hm
      refine h ρ σ H hd ls _ _ _ hR hL e1 λ ρ1 H1 v x1 R1 r1=>?_
      simp only[RDs,RD,RI]at r1
      obtain⟨x,r,rfl,rfl,rfl⟩:=r1
      exact⟨j,rfl,c.1,c.2,hQ ρ1 H1 _ x1 R1 (Ab _) Ij⟩
    . cases hm
  . cases hm
open Classical in
noncomputable def JN(m:MA):MI:=λ ls hd=>(m ls hd).bind λ p=>match p.1 with
  | [.im (.int i),.im (.int j)]=>if Nf i j then some ((Ao i (j - i).toNat,[]),p.2)else none
  | _=>none
theorem TR{t:TA}{m:MA}(h:RA K t m):RIt K (O1 t) (JN m):=by
  intro ρ σ H hd ls Q d g hd' hR hL hm hQ
  obtain⟨⟨d1,h1⟩,e1,hm⟩:=Option.bind_eq_some_iff.mp hm
  dsimp only at hm
  split at hm
  . next i j=>
    split at hm
    . next c=>
      cases hm
      refine h ρ σ H hd ls _ _ _ hR hL e1 λ ρ1 H1 v x1 R1 r1=>?_
      simp only[RDs,RD,RI]at r1
      obtain⟨x,r,rfl,rfl,y,r2,rfl,rfl,rfl⟩:=r1
      exact⟨i,j,rfl,⟨c.1.1,c.1.2,c.2.1,c.2.2⟩,hQ ρ1 H1 _ x1 R1 (Ab _) Ij⟩
    . cases hm
  . cases hm
open Classical in
noncomputable def Br(n:MG)(b:MS)(g:Gd):List D->Ls->Hd->Option (Fl × Hd)
  | [],ls,hd=>some (.nx ls,hd)
  | d :: r,ls,hd=>(n d ls hd).bind λ ls1=>(b ls1 hd).bind λ p=>match p.1 with
    | .nx ls2=>if GOk p.2 g then Br n b g r ls2 p.2 else none
    | .ct ls2=>if GOk p.2 g then Br n b g r ls2 p.2 else none
    | .bk ls2=>some (.nx ls2,p.2)
    | .rt d=>some (.rt d,p.2)
noncomputable def Cq(mi:MI)(n:MG)(b:MS):MS:=λ ls hd=>(mi ls hd).bind λ p=>Br n b p.1.2 p.1.1 ls p.2
theorem V9{wi:TI}{g:TG}{tb:TS}{mi:MI}{n:MG}{b:MS}(hi:RIt K wi mi)(hg:RGt K g n)(hb:RS K tb b):RS K (Qa wi g tb) (Cq mi n b):=by
  intro ρ σ H hd ls E f hd' hR hL hm hQ
  obtain⟨⟨⟨ds,gd⟩,h1⟩,e1,hm⟩:=Option.bind_eq_some_iff.mp hm
  refine hi ρ σ H hd ls _ ds gd h1 hR hL e1 λ ρ1 H1 J x1 R1 G1 Y=>?_
  dsimp only at hm
  refine⟨λ i m σ2 H2=>m=ds.length - i/\i <= ds.length/\∃ ρ2 ls2 hd2,Ext ρ1 H1 ρ2 H2/\RH K ρ2 H2 hd2/\RL K ρ2 H2 ls2 σ2/\GOk hd2 gd/\Br n b gd (ds.drop i) ls2 hd2=some (f,hd'),
    ⟨ds.length,by simp,Nat.zero_le _,ρ1,ls,h1,.refl,R1,hL.ext hR x1,G1,by simpa using hm⟩,?_⟩
  rintro i m σ2 H2 ⟨rfl,hi,ρ2,ls2,hd2,x2,R2,L2',G2,hm2⟩
  obtain⟨Y1,Y2⟩:=Y ρ2 H2 hd2 x2 R2 G2 i
  by_cases hlt:i < ds.length
  . obtain⟨go,Y1⟩:=Y1 hlt
    have ed:ds.drop i=ds[i] :: ds.drop (i + 1):=List.drop_eq_getElem_cons hlt
    rw[ed]at hm2
    unfold Br at hm2
    obtain⟨ls3,e3,hm2⟩:=Option.bind_eq_some_iff.mp hm2
    obtain⟨⟨fl,hd4⟩,e4,hm2⟩:=Option.bind_eq_some_iff.mp hm2
    refine .inr ⟨go,λ σ' H'=>∃ ρ2 ls2 hd2,Ext ρ1 H1 ρ2 H'/\RH K ρ2 H' hd2/\RL K ρ2 H' ls2 σ'/\GOk hd2 gd/\Br n b gd (ds.drop (i + 1)) ls2 hd2=some (f,hd'),λ σ' H' z=>⟨ds.length - (i + 1),by omega,rfl,hlt,z⟩,λ x H3 y=>?_⟩
    obtain⟨ρ3,d3,x3,rfl,R3,e5,r3⟩:=Y1 x H3 y
    have e6:d3=ds[i]:=by
      have:ds[i]? = some ds[i]:=by simp[hlt]
      rw[this]at e5;exact(Option.some.inj e5).symm
    subst e6
    refine hg ρ3 σ2 H3 hd2 ls2 ls3 _ x _ R3 (L2'.ext R2 x3) r3 e3 λ σ4 L4=>?_
    refine hb ρ3 σ4 H3 hd2 ls3 _ fl hd4 R3 L4 e4 λ ρ5 H5 x5 R5=>?_
    have x15:=(x2.trans R2 x3).trans R3 x5
    cases fl with
    | nx ls5=>
      intro σ5 L5
      dsimp only at hm2
      split at hm2
      . next c=>exact⟨ρ5,ls5,hd4,x15,R5,L5,c,hm2⟩
      . cases hm2
    | ct ls5=>
      intro σ5 L5
      dsimp only at hm2
      split at hm2
      . next c=>exact⟨ρ5,ls5,hd4,x15,R5,L5,c,hm2⟩
      . cases hm2
    | bk ls5=>
      intro σ5 L5
      cases hm2
      exact hQ ρ5 H5 (x1.trans R1 x15) R5 σ5 L5
    | rt d5=>
      intro v5 r5
      cases hm2
      exact hQ ρ5 H5 (x1.trans R1 x15) R5 v5 r5
  . have e:i=ds.length:=by omega
    subst e
    rw[List.drop_length]at hm2
    unfold Br at hm2
    cases hm2
    exact .inl ⟨Y2 rfl,hQ ρ2 H2 (x1.trans R1 x2) R2 σ2 L2'⟩
open Classical in
noncomputable def B3(n:MG)(c:MT)(m:ME)(g:Gd):List D->Ls->Hd->Option (List D × Hd)
  | [],_,hd=>some ([],hd)
  | d :: r,ls,hd=>(n d ls hd).bind λ ls1=>(c ls1 hd).bind λ p=>if p.1=true then(m ls1 p.2).bind λ q=>if GOk q.2 g then(B3 n c m g r ls1 q.2).map λ z=>(q.1 :: z.1,z.2)else none else if GOk p.2 g then B3 n c m g r ls1 p.2 else none
noncomputable def Dh(k:Nat)(ix:List Nat)(ls:Ls):Ls:=List.replicate k none ++ ix.map λ i=>(ls[i]?).join
open Classical in
noncomputable def BG(k:Nat)(ix:List Nat)(mi:MI)(n:MG)(c:MT)(m:ME):MA:=λ ls hd=>(mi ls hd).bind λ p=>if C0 p.1.1.length then B3 n c m p.1.2 p.1.1 (Dh k ix ls) p.2 else none
theorem K1{k:Nat}{ix:List Nat}{ls:Ls}{σ:St}(h:RL K ρ H ls σ):RL K ρ H (Dh k ix ls) (FU k ix σ):=by
  refine⟨by simp[Dh,FU],λ i d e=>?_⟩
  unfold Dh at e
  unfold FU
  by_cases hi:i < k
  . rw[List.getElem?_append_left (by simpa using hi),List.getElem?_replicate]at e
    split at e <;> cases e
  . have hi':k <= i:=Nat.not_lt.mp hi
    rw[List.getElem?_append_right (by simpa using hi'),List.length_replicate,List.getElem?_map]at e ⊢
    cases q:ix[i - k]? with
    | none=>rw[q]at e;cases e
    | some j=>
      rw[q]at e
      simp only[Option.map_some,Option.some.injEq]at e ⊢
      have e5:ls[j]? = some (some d):=by
        cases w:ls[j]? with
        | none=>rw[w]at e;cases e
        | some z=>rw[w]at e;simpa using e
      obtain⟨v,e6,e7⟩:=h.ob j d e5
      exact⟨v,by rw[e6];rfl,e7⟩
theorem Ms{k:Nat}{ix:List Nat}{wi:TI}{g:TG}{tf:TT}{te:TE}{mi:MI}{n:MG}{c:MT}{m:ME}(hi:RIt K wi mi)(hg:RGt K g n)(hf:RT K tf c)(he:RE K te m):RN K (Iu k ix wi g tf te) (BG k ix mi n c m):=by
  intro ρ σ H hd ls Q out hd' hR hL hm hQ
  obtain⟨⟨⟨ds,gd⟩,h1⟩,e1,hm⟩:=Option.bind_eq_some_iff.mp hm
  dsimp only at hm
  split at hm
  . next hlen=>
    have hlen:ds.length <= sizeLine:=hlen
    refine hi ρ σ H hd ls _ ds gd h1 hR hL e1 λ ρ1 H1 J x1 R1 G1 Y=>?_
    intro Da hDa
    obtain⟨R1',x1'⟩:=R1.hid (ho:=.lst []) hDa
    have oD:Da ∉ ρ1:=R1.out hDa
    have nD:H Da=none:=x1.none hR hDa R1
    refine⟨λ i mm σ2 ys H2=>mm=ds.length - i/\i <= ds.length/\∃ ρ2 ls2 hd2 es rest,Ext ρ1 (upd H1 Da (.lst ys)) ρ2 H2/\Ext ρ1 H1 ρ2 H2/\Da ∉ ρ2/\H2 Da=some (.lst ys)/\RH K ρ2 H2 hd2/\RL K ρ2 H2 ls2 σ2/\RDs K ρ2 H2 es ys/\es.length <= i/\GOk hd2 gd/\B3 n c m gd (ds.drop i) ls2 hd2=some (rest,hd')/\out=es ++ rest,
      ⟨ds.length,by simp,Nat.zero_le _,ρ1,_,h1,[],out,.refl,x1',oD,Am,R1',(K1 ((hL.ext hR x1).ext R1 x1')),.nil,Nat.le_refl _,G1,by simpa using hm,rfl⟩,?_⟩
    rintro i mm σ2 ys H2 ⟨rfl,hi,ρ2,ls2,hd2,es,rest,x2',x2,oD2,hD2,R2,L2',r2,hle,G2,hm2,rfl⟩
    refine⟨hD2,?_⟩
    obtain⟨Y1,Y2⟩:=Y ρ2 H2 hd2 x2 R2 G2 i
    by_cases hlt:i < ds.length
    . obtain⟨go,Y1⟩:=Y1 hlt
      have ed:ds.drop i=ds[i] :: ds.drop (i + 1):=List.drop_eq_getElem_cons hlt
      rw[ed]at hm2
      unfold B3 at hm2
      obtain⟨ls3,e3,hm2⟩:=Option.bind_eq_some_iff.mp hm2
      obtain⟨⟨bb,hd4⟩,e4,hm2⟩:=Option.bind_eq_some_iff.mp hm2
      refine .inr ⟨go,Nat.lt_of_le_of_lt (by rw[r2.len];exact hle) (by omega),λ σ' ys' H'=>∃ ρ2 ls2 hd2 es' rest',Ext ρ1 (upd H1 Da (.lst ys')) ρ2 H'/\Ext ρ1 H1 ρ2 H'/\Da ∉ ρ2/\H' Da=some (.lst ys')/\RH K ρ2 H' hd2/\RL K ρ2 H' ls2 σ'/\RDs K ρ2 H' es' ys'/\es'.length <= i + 1/\GOk hd2 gd/\B3 n c m gd (ds.drop (i + 1)) ls2 hd2=some (rest',hd')/\es ++ rest=es' ++ rest',λ σ' ys' H' z=>⟨ds.length - (i + 1),by omega,rfl,hlt,z⟩,λ x H3 y=>?_⟩
      obtain⟨ρ3,d3,x3,rfl,R3,e5,r3⟩:=Y1 x H3 y
      have e6:d3=ds[i]:=by
        have:ds[i]? = some ds[i]:=by simp[hlt]
        rw[this]at e5;exact(Option.some.inj e5).symm
      subst e6
      refine hg ρ3 σ2 H3 hd2 ls2 ls3 _ x _ R3 (L2'.ext R2 x3) r3 e3 λ σ4 L4=>?_
      refine hf ρ3 σ4 H3 hd2 ls3 _ bb hd4 R3 L4 e4 λ ρ5 H5 x5 R5=>?_
      have hD5:H5 Da=some (.lst ys):=x5.keep Da _ (x3.keep Da _ hD2 oD2 nt) oD2 nt
      have out5:Da ∉ ρ5:=by
        obtain⟨r,rfl,fr⟩:=x5.pre
        intro z
        rcases List.mem_append.mp z with z|z
        . exact oD2 z
        . have:=fr _ z
          rw[x3.keep Da _ hD2 oD2 nt]at this;cases this
      cases bb with
      | false=>
        rw[if_neg Bool.false_ne_true]at hm2 ⊢
        have y25:=x3.trans R3 x5
        split at hm2
        . next g5=>exact⟨ρ5,ls3,hd4,es,rest,x2'.trans R2 y25,(x2.trans R2 y25),out5,hD5,R5,L4.ext R3 x5,(r2.ext R2 y25),by omega,g5,hm2,rfl⟩
        . cases hm2
      | true=>
        rw[if_pos rfl]at hm2 ⊢
        obtain⟨⟨z,hd6⟩,e6,hm2⟩:=Option.bind_eq_some_iff.mp hm2
        obtain⟨g6,hm2⟩:GOk hd6 gd/\((B3 n c m gd (ds.drop (i + 1)) ls3 hd6).map λ q=>(z :: q.1,q.2))=some (rest,hd'):=by
          dsimp only at hm2
          split at hm2
          . next g6=>exact⟨g6,hm2⟩
          . cases hm2
        obtain⟨⟨zs,hd7⟩,e7,e8⟩:=Option.map_eq_some_iff.mp hm2
        cases e8
        refine he ρ5 σ4 H5 hd4 ls3 _ z hd6 R5 (L4.ext R3 x5) e6 λ ρ6 H6 v6 x6 R6 r6=>?_
        have hD6:H6 Da=some (.lst ys):=x6.keep Da _ hD5 out5 nt
        have out6:Da ∉ ρ6:=by
          obtain⟨r,rfl,fr⟩:=x6.pre
          intro z
          rcases List.mem_append.mp z with z|z
          . exact out5 z
          . have:=fr _ z
            rw[hD5]at this;cases this
        refine⟨hD6,?_⟩
        have y26:=(x3.trans R3 x5).trans R5 x6
        have gr:Grow H6 (upd H6 Da (.lst (ys ++ [v6]))):=Grow.refl.put (.lst hD6)
        have R7:=R6.hput (ho:=.lst (ys ++ [v6])) out6 hD6
        have x12:=x2.trans R2 y26
        have ext7:Ext ρ1 H1 ρ6 (upd H6 Da (.lst (ys ++ [v6]))):=⟨x12.pre,λ b o q nb t=>by
          have:b ≠ Da:=Ap q hDa
          rw[AR this];exact x12.keep b o q nb t,λ b ps q=>by
          have:b ≠ Da:=Ap q hDa
          rw[AR this];exact x12.tab b ps q⟩
        have ext8:Ext ρ1 (upd H1 Da (.lst (ys ++ [v6]))) ρ6 (upd H6 Da (.lst (ys ++ [v6]))):=by
          obtain⟨r,er,fr⟩:=x12.pre
          refine⟨⟨r,er,λ b hb=>?_⟩,λ b o q nb t=>?_,λ b ps q=>?_⟩
          . have:b ≠ Da:=λ z=>out6 (by rw[er,<- z];exact List.mem_append_right _ hb)
            rw[AR this];exact fr b hb
          . by_cases hb:b=Da
            . subst hb;rw[Am]at q ⊢;exact q
            . rw[AR hb]at q ⊢;exact x12.keep b o q nb t
          . by_cases hb:b=Da
            . subst hb;rw[Am]at q;cases q
            . rw[AR hb]at q ⊢;exact x12.tab b ps q
        refine⟨ρ6,ls3,hd6,es ++ [z],zs,ext8,ext7,out6,Am,R7,?_,?_,by simp;omega,g6,e7,by simp⟩
        . have L6:=(L4.ext R3 x5).ext R5 x6
          exact⟨L6.len,λ i d e=>let ⟨v,a,b⟩:=L6.ob i d e;⟨v,a,by simpa using b.mono gr []⟩⟩
        . have:=((r2.ext R2 y26).app (.cons r6 .nil)).mono gr []
          simpa using this
    . have e:i=ds.length:=by omega
      subst e
      rw[List.drop_length]at hm2
      unfold B3 at hm2
      cases hm2
      refine .inl ⟨Y2 rfl,?_⟩
      exact hQ ρ2 H2 Da ys (x1.trans R1 x2) R2 nD oD2 hD2 (by simpa using r2)
  . cases hm
end
end L2
namespace L2
open PySem PySem.Spec PyProof.Rows
mutual
noncomputable def clD(w:Nat):D->Bool
  | .im _=>true
  | .mu n=>decide (n < w)
  | .tm ds=>BT w ds
  | .ro _=>true
noncomputable def BT(w:Nat):List D->Bool
  | []=>true
  | d :: ds=>clD w d && BT w ds
end
noncomputable def Gi(w:Nat):List (Key × D)->Bool
  | []=>true
  | d :: ds=>clD w d.2 && Gi w ds
noncomputable def clO(w:Nat):MO->Bool
  | .lst ds=>BT w ds
  | .dic ds=>Gi w ds
section
variable{K:PySem.W.Frag}{ρ ρ' ρ1:List Addr}{H H' H1:Hp}{hd hd' h1 h2:Hd}
mutual
theorem RD.take(w:Nat):∀ {d:D} {v:V},RD K ρ H d v->clD w d=true->RD K (ρ.take w) H d v
  | .im i,v,h,_=>by simp only[RD]at h ⊢;exact h
  | .mu n,v,h,c=>by
    simp only[RD]at h ⊢
    obtain⟨a,e,q⟩:=h
    exact⟨a,by rw[List.getElem?_take_of_lt (by simpa [clD]using c)];exact e,q⟩
  | .tm ds,v,h,c=>by
    simp only[RD]at h ⊢
    obtain⟨a,xs,e,q,z⟩:=h
    exact⟨a,xs,e,q,RDs.take' w z (by simpa [clD]using c)⟩
  | .ro ns,v,h,c=>by simp only[RD]at h ⊢;exact h
theorem RDs.take'(w:Nat):∀ {d:List D} {v:List V},RDs K ρ H d v->BT w d=true->RDs K (ρ.take w) H d v
  | [],v,h,_=>by simpa only[RDs]using h
  | d :: ds,v,h,c=>by
    simp only[RDs]at h ⊢
    obtain⟨x,r',e,q,z⟩:=h
    have c:clD w d=true/\BT w ds=true:=by simpa [BT]using c
    exact⟨x,r',e,q.take w c.1,RDs.take' w z c.2⟩
end
theorem RKs.take(w:Nat):∀ {d:List (Key × D)} {v:List (Key × V)},RKs K ρ H d v->Gi w d=true->RKs K (ρ.take w) H d v
  | [],v,h,_=>by simpa only[RKs]using h
  | d :: ds,v,h,c=>by
    simp only[RKs]at h ⊢
    obtain⟨x,r',e,q1,q,z⟩:=h
    have c:clD w d.2=true/\Gi w ds=true:=by simpa [Gi]using c
    exact⟨x,r',e,q1,q.take w c.1,RKs.take w z c.2⟩
theorem RC.take(w:Nat){o:MO}{ho:HO}(h:RC K ρ H o ho)(c:clO w o=true):RC K (ρ.take w) H o ho:=by
  cases o with
  | lst ds=>obtain⟨xs,e,q⟩:=h;exact⟨xs,e,q.take' w c⟩
  | dic ds=>obtain⟨xs,e,q⟩:=h;exact⟨xs,e,q.take w c⟩
theorem RH.take(h:RH K ρ H hd)(w:Nat)(c:(hd.take w).all (clO w)=true):RH K (ρ.take w) H (hd.take w):=by
  refine⟨by simp[h.len],h.nd.sublist (List.take_sublist _ _),h.tabs,λ n o a e1 e2=>?_⟩
  have co:=List.all_eq_true.mp c o (List.mem_of_getElem? e1)
  have hn:n < w:=by
    have:=(List.getElem?_eq_some_iff.mp e1).1
    simp at this;omega
  rw[List.getElem?_take_of_lt hn]at e1 e2
  obtain⟨ho,q1,q2⟩:=h.ob n o a e1 e2
  exact⟨ho,q1,q2.take w co⟩
theorem RH.back(R1:RH K ρ1 H1 h1){w:Nat}(hw:w <= h1.length)(c1:(h1.take w).all (clO w)=true)(x:Ext (ρ1.take w) H1 ρ' H')(R':RH K ρ' H' h2)(c:(h2.take w).all (clO w)=true) :
    RH K ρ1 H' (h2.take w ++ h1.drop w)/\Ext ρ1 H1 ρ1 H'/\ρ'.take w=ρ1.take w:=by
  obtain⟨r,rfl,fr⟩:=x.pre
  have lw:(ρ1.take w).length=w:=by rw[List.length_take,R1.len];omega
  have l2:w <= h2.length:=by rw[<- R'.len];simp[lw]
  have tk:(ρ1.take w ++ r).take w=ρ1.take w:=by rw[List.take_append_of_le_length (by omega),List.take_take];simp
  refine⟨⟨?_,R1.nd,R'.tabs,λ n o a e1 e2=>?_⟩,⟨⟨[],by simp,by simp⟩,λ b o q nb t=>x.keep b o q (λ m=>nb (List.mem_of_mem_take m)) t,x.tab⟩,tk⟩
  . rw[List.length_append,List.length_take,List.length_drop,R1.len];omega
  . by_cases hn:n < w
    . rw[List.getElem?_append_left (by rw[List.length_take];omega),List.getElem?_take_of_lt hn]at e1
      have e3:(ρ1.take w ++ r)[n]? = some a:=by
        rw[List.getElem?_append_left (by omega),List.getElem?_take_of_lt hn];exact e2
      obtain⟨ho,q1,q2⟩:=R'.ob n o a e1 e3
      have co:=List.all_eq_true.mp c o (by
        have:(h2.take w)[n]? = some o:=by rw[List.getElem?_take_of_lt hn];exact e1
        exact List.mem_of_getElem? this)
      have q3:=q2.take w co
      rw[tk]at q3
      have q4:=q3.mono (Grow.refl (H:=H')) (ρ1.drop w)
      rw[List.take_append_drop]at q4
      exact⟨ho,q1,q4⟩
    . rw[List.getElem?_append_right (by rw[List.length_take];omega),List.length_take,List.getElem?_drop]at e1
      have e1:h1[n]? = some o:=by
        have:w + (n - min w h2.length)=n:=by omega
        rw[this]at e1;exact e1
      obtain⟨ho,q1,q2⟩:=R1.ob n o a e1 e2
      have out:a ∉ ρ1.take w:=λ m=>by
        obtain⟨k,hk⟩:=List.mem_iff_getElem?.mp m
        have kw:k < w:=by
          have:=(List.getElem?_eq_some_iff.mp hk).1
          rw[lw]at this;exact this
        rw[List.getElem?_take_of_lt kw]at hk
        have:=(List.getElem?_inj (List.getElem?_eq_some_iff.mp e2).1 R1.nd).mp (e2.trans hk.symm)
        omega
      have gr:=x.grow (R1.take w c1)
      exact⟨ho,x.keep a ho q1 out (λ ps z=>by rcases R1.mut (List.mem_of_getElem? e2)with⟨y,w⟩|⟨y,w⟩ <;> (rw[q1,z]at w;cases w)),by simpa using q2.mono gr []⟩
noncomputable def spF(K:PySem.W.Frag)(k:Nat)(F:List D->Hd->Option (D × Hd)):Sp:=λ vs H Q _=>vs.length=k/\∃ (ρ:List Addr) (hd:Hd) (ds:List D) (d:D) (hd':Hd),RH K ρ H hd/\RDs K ρ H ds vs/\F ds hd=some (d,hd') /\
  ∀ ρ' H' v,Ext ρ H ρ' H'->RH K ρ' H' hd'->RD K ρ' H' d v->Q v H'
noncomputable def mkF(k n:Nat)(m:MS):List D->Hd->Option (D × Hd):=λ ds hd=>if ds.length=k then(match m (ds.map some ++ List.replicate (n - k) none) hd with
  | some (.rt d,hd')=>some (d,hd')
  | some (.nx _,hd')=>some (.im .non,hd')
  | _=>none)else none
theorem LU{N:List Str}:∀ {ds:List D} {vs:List V},RDs K ρ H ds vs->RL K ρ H (ds.map some ++ List.replicate (N.length - ds.length) none) (Dr N vs):=by
  intro ds vs r
  have hl:=r.len
  refine⟨by simp[Dr,hl],λ i d e=>?_⟩
  unfold Dr
  by_cases hi:i < ds.length
  . rw[List.getElem?_append_left (by simpa using hi),List.getElem?_map]at e
    have e':ds[i]? = some d:=by
      cases q:ds[i]? with
      | none=>rw[q]at e;cases e
      | some z=>rw[q]at e;simpa using e
    obtain⟨x,x1,x2⟩:=r.get e'
    exact⟨x,by rw[List.getElem?_append_left (by rw[List.length_map,hl];exact hi),List.getElem?_map,x1];rfl,x2⟩
  . rw[List.getElem?_append_right (by simpa using Nat.not_lt.mp hi),List.getElem?_replicate]at e
    split at e <;> cases e
theorem T4{k:Nat}{N:List Str}{m:MS}{t:TS}(h:RS K t m){vs:List V}{H:Hp}{Q:VK}{E:XK}(s:spF K k (mkF k N.length m) vs H Q E):t { nx:=λ _ H'=>Q .non H',rt:=Q } (Dr N vs) H:=by
  obtain⟨hk,ρ,hd,ds,d,hd',hR,hr,hF,hQ⟩:=s
  unfold mkF at hF
  split at hF
  . next hl=>
    subst hl
    split at hF
    . next q=>
      cases hF
      exact h ρ _ H hd _ _ _ _ hR (LU hr) q λ ρ' H' x R v r=>hQ ρ' H' v x R r
    . next q=>
      cases hF
      exact h ρ _ H hd _ _ _ _ hR (LU hr) q λ ρ' H' x R σ L=>hQ ρ' H' .non x R (by simp[RD,RI])
    . cases hF
  . cases hF
noncomputable def EA(F:List D->Hd->Option (D × Hd))(ma:MA):ME:=λ ls hd=>(ma ls hd).bind λ p=>F p.1 p.2
theorem Qz{k:Nat}{F:List D->Hd->Option (D × Hd)}{t:TA}{m:MA}(h:RA K t m)(hk:∀ ds hd z,F ds hd=some z->ds.length=k):RE K (FY (spF K k F) [] E0 t) (EA F m):=by
  intro ρ σ H hd ls Q d hd' hR hL hm hQ
  obtain⟨⟨d1,h1⟩,e1,hm⟩:=Option.bind_eq_some_iff.mp hm
  refine h ρ σ H hd ls _ d1 h1 hR hL e1 λ ρ1 H1 v1 x1 R1 r1=>?_
  rw[List.append_nil]
  exact⟨by rw[r1.len];exact hk _ _ _ hm,ρ1,h1,d1,d,hd',R1,r1,hm,λ ρ' H' w x2 R2 r2=>hQ ρ' H' w (x1.trans R1 x2) R2 r2⟩
theorem AI{k n:Nat}{m:MS}:∀ ds hd z,mkF k n m ds hd=some z->ds.length=k:=λ ds hd z h=>by
  unfold mkF at h
  split at h
  . next e=>exact e
  . cases h
noncomputable def fin(w:Nat)(d:D)(h2 rest:Hd):Option (D × Hd):=if(h2.take w).all (clO w)=true then(match d with
    | .mu k=>if k < w then some (.mu k,h2.take w ++ rest)else(match h2[k]? with
      | some (.lst ds)=>if BT w ds=true then some (.mu (w + rest.length),h2.take w ++ rest ++ [.lst ds])else none
      | _=>none)
    | d=>if clD w d=true then some (d,h2.take w ++ rest)else none)else none
noncomputable def AK(w:Nat)(F:List D->Hd->Option (D × Hd))(ma:MA):ME:=λ ls hd=>(ma ls hd).bind λ p=>
  if w <= p.2.length/\BT w p.1=true/\(p.2.take w).all (clO w)=true then(F p.1 (p.2.take w)).bind λ r=>fin w r.1 r.2 (p.2.drop w)else none
theorem Qx{w k:Nat}{F:List D->Hd->Option (D × Hd)}{t:TA}{m:MA}(h:RA K t m)(hk:∀ ds hd z,F ds hd=some z->ds.length=k):RE K (FY (spF K k F) [] E0 t) (AK w F m):=by
  intro ρ σ H hd ls Q d hd' hR hL hm hQ
  obtain⟨⟨d1,h1⟩,e1,hm⟩:=Option.bind_eq_some_iff.mp hm
  dsimp only at hm
  split at hm
  . next c=>
    obtain⟨c0,c1,c2⟩:=c
    obtain⟨⟨d2,h2⟩,e2,hm⟩:=Option.bind_eq_some_iff.mp hm
    refine h ρ σ H hd ls _ d1 h1 hR hL e1 λ ρ1 H1 v1 x1 R1 r1=>?_
    rw[List.append_nil]
    refine⟨by rw[r1.len];exact hk _ _ _ e2,ρ1.take w,h1.take w,d1,d2,h2,R1.take w c2,r1.take' w c1,e2,λ ρ' H' v x2 R2 r2=>?_⟩
    unfold fin at hm
    dsimp only at hm
    split at hm
    . next c3=>
      obtain⟨R3,x3,tk⟩:=R1.back c0 c2 x2 R2 c3
      have up:∀ {d:D} {v:V},RD K ρ' H' d v->clD w d=true->RD K ρ1 H' d v:=λ r c=>by
        have q:=r.take w c
        rw[tk]at q
        have q:=q.mono (Grow.refl (H:=H')) (ρ1.drop w)
        rw[List.take_append_drop]at q
        exact q
      have ups:∀ {d:List D} {v:List V},RDs K ρ' H' d v->BT w d=true->RDs K ρ1 H' d v:=λ r c=>by
        have q:=r.take' w c
        rw[tk]at q
        have q:=q.mono (Grow.refl (H:=H')) (ρ1.drop w)
        rw[List.take_append_drop]at q
        exact q
      split at hm
      . next k'=>
        split at hm
        . next hk'=>
          cases hm
          exact hQ ρ1 H' v (x1.trans R1 x3) R3 (up r2 (by simpa [clD]using hk'))
        . next hk'=>
          split at hm
          . next ds q=>
            split at hm
            . next c4=>
              cases hm
              simp only[RD]at r2
              obtain⟨a,ea,rfl⟩:=r2
              obtain⟨xs,l1,l2⟩:=R2.lst ea q
              have len3:=R3.len
              have out:a ∉ ρ1:=λ m=>by
                -- a is one of those made behind the first w
                obtain⟨r,er,fr⟩:=x2.pre
                have lw:(ρ1.take w).length=w:=by rw[List.length_take,R1.len];omega
                have ma:a ∈ r:=by
                  rw[er,List.getElem?_append_right (by rw[lw];omega)]at ea
                  exact List.mem_of_getElem? ea
                exact R1.out (fr a ma) m
              have na:H1 a=none:=by
                obtain⟨r,er,fr⟩:=x2.pre
                have lw:(ρ1.take w).length=w:=by rw[List.length_take,R1.len];omega
                have ma:a ∈ r:=by
                  rw[er,List.getElem?_append_right (by rw[lw];omega)]at ea
                  exact List.mem_of_getElem? ea
                exact fr a ma
              refine hQ (ρ1 ++ [a]) H' _ (x1.trans R1 (x3.name na)) (R3.name out l1 (ups l2 c4)) ?_
              simp only[RD]
              refine⟨a,?_,rfl⟩
              have:w + (List.drop w h1).length=ρ1.length:=by rw[List.length_drop,R1.len];omega
              rw[this];simp
            . cases hm
          . cases hm
      . next d' nd=>
        split at hm
        . next c4=>cases hm;exact hQ ρ1 H' v (x1.trans R1 x3) R3 (up r2 c4)
        . cases hm
    . cases hm
  . cases hm
noncomputable def Bk(c:MT)(b:MS):Nat->Ls->Hd->Option (Fl × Hd)
  | 0,_,_=>none
  | k + 1,ls,hd=>(c ls hd).bind λ p=>if p.1=true then(b ls p.2).bind λ q=>(match q.1 with
      | .nx ls2=>Bk c b k ls2 q.2
      | .ct ls2=>Bk c b k ls2 q.2
      | .bk ls2=>some (.nx ls2,q.2)
      | .rt d=>some (.rt d,q.2))else some (.nx ls,p.2)
open Classical in
noncomputable def EZ(c:MT)(b:MS):MS:=λ ls hd=>if h:∃ r k,Bk c b k ls hd=some r then some h.choose else none
theorem EL{c:MT}{b:MS}:∀ {k j:Nat} {ls:Ls} {hd:Hd} {r:Fl × Hd},Bk c b k ls hd=some r->k <= j->Bk c b j ls hd=some r
  | 0,_,_,_,_,h,_=>by cases h
  | k + 1,0,_,_,_,_,hj=>by omega
  | k + 1,j + 1,ls,hd,r,h,hj=>by
    unfold Bk at h ⊢
    obtain⟨p,e1,h⟩:=Option.bind_eq_some_iff.mp h
    rw[e1]
    show(if p.1=true then _ else _)=_
    split at h
    . next c=>
      rw[if_pos c]
      obtain⟨q,e2,h⟩:=Option.bind_eq_some_iff.mp h
      rw[e2]
      obtain⟨f,hd2⟩:=q
      cases f with
      | nx ls2=>exact EL h (by omega)
      | ct ls2=>exact EL h (by omega)
      | bk ls2=>exact h
      | rt d=>exact h
    . next c=>rw[if_neg c];exact h
theorem PQ{c:MT}{b:MS}{k:Nat}{ls:Ls}{hd:Hd}{r:Fl × Hd}(h:Bk c b k ls hd=some r):EZ c b ls hd=some r:=by
  unfold EZ
  have ex:∃ r k,Bk c b k ls hd=some r:=⟨r,k,h⟩
  rw[dif_pos ex]
  obtain⟨j,e⟩:=ex.choose_spec
  have e1:=EL e (Nat.le_max_left j k)
  have e2:=EL h (Nat.le_max_right j k)
  rw[e1]at e2
  exact e2
theorem Qj{tc:TT}{tb:TS}{c:MT}{b:MS}(hc:RT K tc c)(hb:RS K tb b):RS K (L0 tc tb) (EZ c b):=by
  intro ρ σ H hd ls E f hd' hR hL hm hQ
  obtain⟨k,hk⟩:∃ k,Bk c b k ls hd=some (f,hd'):=by
    unfold EZ at hm
    split at hm
    . next ex=>
      obtain⟨j,e⟩:=ex.choose_spec
      exact⟨j,by rw[e];exact hm⟩
    . cases hm
  refine⟨λ m σ2 H2=>∃ ρ2 ls2 hd2,Ext ρ H ρ2 H2/\RH K ρ2 H2 hd2/\RL K ρ2 H2 ls2 σ2/\Bk c b m ls2 hd2=some (f,hd'),⟨k,ρ,ls,hd,.refl,hR,hL,hk⟩,?_⟩
  rintro m σ2 H2 ⟨ρ2,ls2,hd2,x2,R2,L2',hm2⟩
  cases m with
  | zero=>cases hm2
  | succ m=>
    unfold Bk at hm2
    obtain⟨⟨bb,hd3⟩,e1,hm2⟩:=Option.bind_eq_some_iff.mp hm2
    refine hc ρ2 σ2 H2 hd2 ls2 _ bb hd3 R2 L2' e1 λ ρ3 H3 x3 R3=>?_
    cases bb with
    | false=>
      rw[if_neg Bool.false_ne_true]at hm2 ⊢
      cases hm2
      exact hQ ρ3 H3 (x2.trans R2 x3) R3 σ2 (L2'.ext R2 x3)
    | true=>
      rw[if_pos rfl]at hm2 ⊢
      obtain⟨⟨fl,hd4⟩,e2,hm2⟩:=Option.bind_eq_some_iff.mp hm2
      refine⟨λ σ' H'=>∃ ρ2 ls2 hd2,Ext ρ H ρ2 H'/\RH K ρ2 H' hd2/\RL K ρ2 H' ls2 σ'/\Bk c b m ls2 hd2=some (f,hd'),λ σ' H' z=>⟨m,Nat.lt_succ_self m,z⟩,?_⟩
      refine hb ρ3 σ2 H3 hd3 ls2 _ fl hd4 R3 (L2'.ext R2 x3) e2 λ ρ5 H5 x5 R5=>?_
      have x15:=(x2.trans R2 x3).trans R3 x5
      cases fl with
      | nx ls5=>intro σ5 L5;exact⟨ρ5,ls5,hd4,x15,R5,L5,hm2⟩
      | ct ls5=>intro σ5 L5;exact⟨ρ5,ls5,hd4,x15,R5,L5,hm2⟩
      | bk ls5=>intro σ5 L5;cases hm2;exact hQ ρ5 H5 x15 R5 σ5 L5
      | rt d5=>intro v5 r5;cases hm2;exact hQ ρ5 H5 x15 R5 v5 r5
noncomputable def Uq(kvs:List (Key × D))(k:Key):Option D:=(kvs.find? λ kv=>decide (kv.1=k)).map (·.2)
noncomputable def RW(kvs:List (Key × D))(k:Key)(v:D):List (Key × D):=
  if(kvs.any λ kv=>decide (kv.1=k))=true then kvs.map (λ kv=>if kv.1=k then(kv.1,v)else kv)else kvs ++ [(k,v)]
noncomputable def Ha:D->Option Key
  | .im (.int i)=>some (.inl i)
  | .im (.str x)=>some (.inr x)
  | _=>none
noncomputable def K0(hd:Hd):D->Option (List (Key × D))
  | .mu n=>match hd[n]? with
    | some (.dic kvs)=>some kvs
    | _=>none
  | _=>none
noncomputable def Xm:D->D->Hd->Option (D × Hd):=λ d e hd=>(K0 hd d).bind λ kvs=>(Ha e).bind λ k=>(Uq kvs k).map (·,hd)
open Classical in
noncomputable def Xf(md my mv:ME):MS:=λ ls hd=>(mv ls hd).bind λ p=>(md ls p.2).bind λ q=>(my ls q.2).bind λ r=>(Ha r.1).bind λ k=>match q.1 with
  | .mu n=>match r.2[n]? with
    | some (.dic kvs)=>if Ex kvs.length then some (.nx ls,r.2.set n (.dic (RW kvs k p.1)))else none
    | _=>none
  | _=>none
noncomputable def Fy:List (ME × ME)->Ls->Hd->Option (List (Key × D) × Hd)
  | [],_,hd=>some ([],hd)
  | (mk,mv) :: r,ls,hd=>(mk ls hd).bind λ p=>(mv ls p.2).bind λ q=>(Fy r ls q.2).bind λ z=>(Ha p.1).map λ k=>((k,q.1) :: z.1,z.2)
noncomputable def PJ(kvs more:List (Key × D)):List (Key × D):=more.foldl (λ acc kv=>RW acc kv.1 kv.2) kvs
noncomputable def Xe(ms:List (ME × ME)):ME:=λ ls hd=>(Fy ms ls hd).bind λ p=>if p.1.length <= 15 then some (.mu p.2.length,p.2 ++ [.dic (PJ [] p.1)])else none
noncomputable def E9(mo mi mv:ME):MS:=λ ls hd=>(mv ls hd).bind λ p=>(mo ls p.2).bind λ q=>(mi ls q.2).bind λ r=>match q.1,r.1 with
  | .mu n,.im (.int i)=>match r.2[n]? with
    | some (.lst ds)=>(ixN ds.length i).map λ j=>(.nx ls,r.2.set n (.lst (ds.set j p.1)))
    | _=>none
  | _,_=>none
theorem TD{to ti tv:TE}{mo mi mv:ME}(ho:RE K to mo)(hi:RE K ti mi)(hv:RE K tv mv):RS K (FH tv (S0 to ti Nm)) (E9 mo mi mv):=by
  intro ρ σ H hd0 ls E f hd' hR hL hm hQ
  obtain⟨⟨d1,h1⟩,e1,hm⟩:=Option.bind_eq_some_iff.mp hm
  obtain⟨⟨d2,h2⟩,e2,hm⟩:=Option.bind_eq_some_iff.mp hm
  obtain⟨⟨d3,h3⟩,e3,hm⟩:=Option.bind_eq_some_iff.mp hm
  dsimp only at hm
  split at hm
  . split at hm
    . next q=>
      obtain⟨j,e4,e5⟩:=Option.map_eq_some_iff.mp hm
      cases e5
      refine hv ρ σ H hd0 ls _ d1 h1 hR hL e1 λ ρ1 H1 v1 x1 R1 r1=>?_
      refine ho ρ1 σ H1 h1 ls _ _ h2 R1 (hL.ext hR x1) e2 λ ρ2 H2 v2 x2 R2 r2=>?_
      refine hi ρ2 σ H2 h2 ls _ _ _ R2 (hL.ext hR (x1.trans R1 x2)) e3 λ ρ3 H3 v3 x3 R3 r3=>?_
      have r2:=r2.ext R2 x3
      simp only[RD]at r2
      obtain⟨a,hn,rfl⟩:=r2
      simp only[RD,RI]at r3
      subst r3
      obtain⟨xs,l1,l2⟩:=R3.lst hn q
      obtain⟨R4,x4⟩:=R3.put hn (o:=.lst _) (ho:=.lst (xs.set j v1)) ⟨_,rfl,l2.set j ((r1.ext R1 x2).ext R2 x3)⟩
      have x13:=(x1.trans R1 x2).trans R2 x3
      exact⟨a,xs,_,j,rfl,rfl,l1,by rw[l2.len];exact e4,hQ ρ3 _ (x13.trans R3 x4) R4 σ ((hL.ext hR x13).ext R3 x4)⟩
    . cases hm
  . cases hm
noncomputable def Jv(i:Nat)(g:Int->Int->Int)(m:ME):MS:=λ ls hd=>match ls[i]? with
  | some (some (.im (.int x)))=>(m ls hd).bind λ p=>match p.1 with
    | .im (.int y)=>some (.nx (ls.set i (some (.im (.int (g x y))))),p.2)
    | _=>none
  | _=>none
theorem VA{i:Nat}{g:Int->Int->Int}{t:TE}{m:ME}(h:RE K t m):RS K (L8 i t (ipI g)) (Jv i g m):=by
  intro ρ σ H hd0 ls E f hd' hR hL hm hQ
  unfold Jv at hm
  split at hm
  . next x e0=>
    obtain⟨⟨d1,h1⟩,e1,hm⟩:=Option.bind_eq_some_iff.mp hm
    dsimp only at hm
    split at hm
    . cases hm
      obtain⟨v,v1,v2⟩:=hL.ob i _ e0
      simp only[RD,RI]at v2
      subst v2
      refine⟨_,v1,h ρ σ H hd0 ls _ _ _ hR hL e1 λ ρ1 H1 w x1 R1 r1=>?_⟩
      simp only[RD,RI]at r1
      subst r1
      exact⟨_,_,rfl,rfl,hQ ρ1 H1 x1 R1 _ ((hL.ext hR x1).set i (by simp[RD,RI]))⟩
    . cases hm
  . cases hm
end
end L2
namespace L2
open PySem PySem.Spec PyProof.Rows
structure QG(K:PySem.W.Frag)(X:Cx)(e:Expr)(t:TG)(m:MG):Prop where
  p:PG X e t
  r:RGt K t m
structure QGs(K:PySem.W.Frag)(X:Cx)(e:List Expr)(t:TGs)(m:MGs):Prop where
  p:PGs X e t
  r:MZ K t m
structure QI(K:PySem.W.Frag)(X:Cx)(tg e:Expr)(t:TI)(m:MI):Prop where
  p:PI X tg e t
  r:RIt K t m
structure QF(K:PySem.W.Frag)(X:Cx)(e:List Expr)(t:TT)(m:MT):Prop where
  p:PF X e t
  r:RT K t m
structure QO(K:PySem.W.Frag)(X:Cx)(e:Option Expr)(t:TO)(m:MO1):Prop where
  p:PO X e t
  r:RO1 K t m
noncomputable def Sl(a b:List D):Prop:=a ≠ []/\C0 (a.length + b.length)
open Classical in
noncomputable def Gb:D->D->Hd->Option (D × Hd):=λ d e hd=>(Ad d).bind λ a=>(Ad e).bind λ b=>if Sl a b then some (Ai (a ++ b),hd)else none
theorem BD{K:PySem.W.Frag}:RB K (Nn K) Gb:=by
  intro ρ H hd d e v u Q z hd' hR h1 h2 hf hQ
  unfold Gb at hf
  obtain⟨a,e1,hf⟩:=Option.bind_eq_some_iff.mp hf
  obtain⟨b,e2,hf⟩:=Option.bind_eq_some_iff.mp hf
  split at hf
  . next c=>
    cases hf
    obtain⟨p,xs,rfl,q1,r1⟩:=h1.tup e1
    obtain⟨p2,ys,rfl,q2,r2⟩:=h2.tup e2
    have l1:=r1.len;have l2:=r2.len
    refine⟨p,p2,xs,ys,rfl,rfl,q1,q2,λ z=>c.1 (by rw[z]at l1;simpa using l1.symm),by rw[l1,l2];exact c.2,λ z=>?_,λ _ p3 hp=>?_⟩
    . have:b=[]:=by rw[z]at l2;simpa using l2.symm
      subst this
      exact hQ ρ H _ .refl hR (by rw[List.append_nil];exact Cm q1 r1)
    . obtain⟨R2,x2⟩:=hR.hid (ho:=.tup (xs ++ ys)) hp
      exact hQ ρ _ _ x2 R2 (Cm (SqT.of Am) ((r1.app r2).ext hR x2))
  . cases hf
noncomputable abbrev BI:=Gh Jz Gb
noncomputable def Ly(neg:Bool)(m:ME):ME:=λ ls hd=>(m ls hd).bind λ p=>some (.im (.bl (match p.1 with
  | .im .non=>!neg
  | _=>neg)),p.2)
theorem YB{K:PySem.W.Frag}{ρ:List Addr}{H:Hp}{d:D}{v:V}(h:RD K ρ H d v):decide (v=.non)=(match d with | .im .non=>true|_=>false):=by
  cases d with
  | im i=>
    cases i with
    | non=>simp only[RD,RI]at h;subst h;rfl
    | tup is=>simp only[RD,RI]at h;obtain⟨a,xs,rfl,_⟩:=h;rfl
    | _=>simp only[RD,RI]at h;subst h;rfl
  | mu n=>simp only[RD]at h;obtain⟨a,_,rfl⟩:=h;rfl
  | tm ds=>simp only[RD]at h;obtain⟨a,xs,rfl,_⟩:=h;rfl
  | ro ns=>simp only[RD]at h;obtain⟨a,rfl,_⟩:=h;rfl
theorem VR{K:PySem.W.Frag}{t:TE}{m:ME}(h:RE K t m):RE K (QY t) (Ly false m):=by
  intro ρ σ H hd ls Q d hd' hR hL hm hQ
  obtain⟨⟨d1,h1⟩,e1,hm⟩:=Option.bind_eq_some_iff.mp hm
  cases hm
  refine h ρ σ H hd ls _ d1 _ hR hL e1 λ ρ1 H1 v x1 R1 r1=>?_
  rw[YB r1]
  refine hQ ρ1 H1 _ x1 R1 ?_
  simp only[RD,RI]
  cases d1 with
  | im i=>cases i <;> rfl
  | _=>rfl
noncomputable def HW(m:ME):ME:=λ ls hd=>(m ls hd).bind λ p=>match p.1 with
  | .im (.int i)=>some (.im (.int (-i)),p.2)
  | _=>none
theorem VP{K:PySem.W.Frag}{t:TE}{m:ME}(h:RE K t m):RE K (tUn (rU λ i=>.int (-i)) t) (HW m):=by
  intro ρ σ H hd ls Q d hd' hR hL hm hQ
  obtain⟨⟨d1,h1⟩,e1,hm⟩:=Option.bind_eq_some_iff.mp hm
  dsimp only at hm
  split at hm
  . cases hm
    exact h ρ σ H hd ls _ _ _ hR hL e1 λ ρ1 H1 v x1 R1 r1=>⟨_,by simpa only[RD,RI]using r1,hQ ρ1 H1 _ x1 R1 (by simp[RD,RI])⟩
  . cases hm
noncomputable def BL:MT:=λ _ hd=>some (true,hd)
theorem V3{K:PySem.W.Frag}:RT K QL BL:=by
  intro ρ σ H hd ls Q d hd' hR hL hm hQ
  cases hm
  exact hQ ρ H .refl hR
section
variable(K:PySem.W.Frag){X:Cx}{a b c e:Expr}{es:List Expr}{ta tb tc te:TE}{ma mb mc me:ME}{tA tB':TT}{nA nB:MT}{t:TA}{m:MA}{pos:Pos}{x:Str}
theorem qv(i:Nat){x:Str}{pos:Pos}(hN:X.N[i]? = some x:=by rfl)(hv:Vis X.env.scope x:=by first|exact Or.inl rfl|exact Or.inr (Or.inl rfl)|exact Or.inr (Or.inr rfl))(hd:(x == ("__debug__":Str))=false:=by decide)
    (hcd:(x == ("__classdict__":Str))=false:=by decide):QE K X (.Name x pos) (NT i) (A0 i):=⟨P4 hN hv hd hcd,VN⟩
theorem AA{i:Int}{j pos}:QE K X (.Constant (.int i) j pos) (tC (.int i)) (mC (.int i)):=⟨Vw,Ni λ _=>by simp[RI]⟩
theorem Ki{i:Bool}{j pos}:QE K X (.Constant (.bool i) j pos) (tC (.bl i)) (mC (.bl i)):=⟨XS,Ni λ _=>by simp[RI]⟩
theorem Vb{j pos}:QE K X (.Constant .none j pos) (tC .non) (mC .non):=⟨Vu,Ni λ _=>by simp[RI]⟩
theorem E4{x:Str}{j pos}:QE K X (.Constant (.str x) j pos) (tC (.str x)) (mC (.str x)):=⟨Vt,Ni λ _=>by simp[RI]⟩
theorem AX{op:Operator}{r:R2}{f:D->D->Hd->Option (D × Hd)}(ho:OpR X (binaryOp op) r)(hr:RB K r f)(ha:QE K X a ta ma)(hb:QE K X b tb mb):QE K X (.BinOp a op b pos) (tOp r ta tb) (mOp f ma mb):=⟨SW ho ha.p hb.p,Kg hr ha.r hb.r⟩
theorem JA(ha:QE K X a ta ma):QE K X (.UnaryOp .USub a pos) (tUn (rU λ i=>.int (-i)) ta) (HW ma):=⟨XQ Ur ha.p,VP ha.r⟩
theorem JC{op:CmpOp}{r:R2}{f:D->D->Hd->Option (D × Hd)}(ho:OpR X (compareOp op) r)(hr:RB K r f)(ha:QE K X a ta ma)(hb:QE K X b tb mb)(hm:behindInMarks op b=false:=by first|exact Lp _|rfl):QE K X (.Compare a [op] [b] pos) (tOp r ta tb) (mOp f ma mb):=⟨U9 ho ha.p hb.p hm,Kg hr ha.r hb.r⟩
theorem BK{op:CmpOp}{r:R2}{f:D->D->Hd->Option (D × Hd)}(ho:OpR X (compareOp op) r)(hr:RB K r f)(ha:QE K X a ta ma)(hb:QE K X b tb mb)(hm:behindInMarks op b=false:=by first|exact Lp _|rfl):QT K X (.Compare a [op] [b] pos) (Kd (tOp r ta tb)) (Ak (mOp f ma mb)):=⟨N1 ho ha.p hb.p hm,Jj (Kg hr ha.r hb.r)⟩
theorem VY{j pos'}(ha:QE K X a ta ma):QT K X (.Compare a [.Is] [.Constant .none j pos'] pos) (tB (QY ta)) (Ak (Ly false ma)):=⟨Vg (Vx ha.p),Y7 (VR ha.r)⟩
theorem FM(ha:QE K X a ta ma)(he:∀ whole,isTrue a X.env whole=(do let v <- whole;standAt a.pos;holding [v] (truthy v)):=by intro _;rfl)(hK:X.K=K:=by rfl) :
    QT K X a (λ σ H Q=>ta σ H λ x H'=>∃ k,MY K x H' k/\Q k H') (GU ma):=by
  subst hK
  exact⟨RX ha.p he,Qi ha.r⟩
theorem Os(ha:QT K X a tA nA):QT K X (.UnaryOp .Not a pos) (QV tA) (Jt nA):=⟨Vf ha.p,V4 ha.r⟩
theorem My(ha:QT K X a tA nA):QW K X (.BoolOp .And [a] pos) tA nA:=⟨Tn ha.p,ha.r⟩
theorem VX(ha:QT K X a tA nA):QW K X (.BoolOp .Or [a] pos) tA nA:=⟨Vd ha.p,ha.r⟩
theorem Oq{rest:List Expr}(ha:QT K X a tA nA)(hb:QW K X (.BoolOp .And (b :: rest) pos) tB' nB):QW K X (.BoolOp .And (a :: b :: rest) pos) (Qb tA tB') (Jw nA nB):=⟨Ve ha.p hb.p,V5 ha.r hb.r⟩
theorem XM{rest:List Expr}(ha:QT K X a tA nA)(hb:QW K X (.BoolOp .Or (b :: rest) pos) tB' nB):QW K X (.BoolOp .Or (a :: b :: rest) pos) (tOr tA tB') (mOr nA nB):=⟨XN ha.p hb.p,XB ha.r hb.r⟩
theorem QW.toT{K:PySem.W.Frag}{X:Cx}{e:Expr}{t:TT}{m:MT}(h:QW K X e t m):QT K X e t m:=⟨h.p.pt,h.r⟩
theorem RV(hc:QT K X c tA nA)(ha:QE K X a ta ma)(hb:QE K X b tb mb):QE K X (.IfExp c a b pos) (tIf tA ta tb) (mIf nA ma mb):=⟨Ri hc.p ha.p hb.p,XG hc.r ha.r hb.r⟩
theorem A7:QA K X [] Ck AC:=⟨Di,VT⟩
theorem A3(ha:QE K X e te me)(hr:QA K X es t m)(hs:starEach (e :: es) X.env=(false,eval e X.env) :: starEach es X.env:=by rfl):QA K X (e :: es) (Bp te t) (A5 me m):=⟨Cf ha.p hr.p hs,Tg ha.r hr.r⟩
theorem Bw{x1}(h:QA K X es t m):QE K X (.Tuple es x1 pos) (QM t) (CI m):=⟨Vs h.p,VO h.r⟩
theorem DD(h:QA K X es t m):QN K X (.List es pos) (QX t) (DV m):=⟨Vv h.p,VC h.r⟩
theorem B7(h:QN K X e te m):QE K X e te (BF m):=⟨h.p,Oj h.r⟩
theorem AQ(ha:QE K X a ta ma)(hb:QE K X b tb mb)(hs:K7 b:=by exact λ _ _=>rfl)(hK:X.K=K:=by rfl):QE K X (.Subscript a b pos) (tOp (Kh K) ta tb) (mOp gIx ma mb):=⟨SX ((M3 K hK).or (N9 K hK)) ha.p hb.p hs,Kg XI ha.r hb.r⟩
theorem Jn:QO K X none Jh Dg:=⟨Tx,TL⟩
theorem Jm(h:QE K X e te me):QO K X (some e) (NV te) (Ev me):=⟨Tw h.p,TK h.r⟩
theorem Li{lo hi:Option Expr}{tl th:TO}{ml mh:MO1}{p2:Pos}(h:QE K X e te me)(hl:QO K X lo tl ml)(hh:QO K X hi th mh)(hK:X.K=K:=by rfl):QN K X (.Subscript e (.Slice lo hi none p2) pos) (tSl (Nl K) te tl th) (GV me ml mh):=⟨Rg (Qd K hK) h.p hl.p hh.p,VB h.r hl.r hh.r⟩
theorem CL{id:String}{p:Pos}{r:List V->Hp->VK->Prop}{f:List D->Hd->Option (D × Hd)}(hc:CallR X (.builtin id) r)(hr:RF K r f)(hm:X.mg x=none)(hv:bootBuiltins x=some (.builtin id))(ha:QA K X (e :: es) t m)(hg:Gl X x:=by rfl)(hn:x ≠ "__name__":=by decide)(hdb:(x == ("__debug__":Str))=false:=by decide)
    (he:starEach (e :: es) X.env=(false,eval e X.env) :: starEach es X.env:=by rfl) (hpl:(backTo pos (starEach es X.env)).any (·.1)=false:=by rfl):QE K X (.Call (.Name x p) (e :: es) [] pos) (tCB r t) (mCB f m):=⟨FP hc hg hm hv ha.p hn hdb he hpl,SL hr ha.r⟩
theorem JB{id:String}{p:Pos}{r:List V->Hp->VK->Prop}{f:List D->Hd->Option (D × Hd)}(hc:CallR X (.type id) r)(hr:RF K r f)(hm:X.mg x=none)(hv:bootBuiltins x=some (.type id))(ha:QA K X (e :: es) t m)(hg:Gl X x:=by rfl)(hn:x ≠ "__name__":=by decide)(hdb:(x == ("__debug__":Str))=false:=by decide)
    (he:starEach (e :: es) X.env=(false,eval e X.env) :: starEach es X.env:=by rfl) (hpl:(backTo pos (starEach es X.env)).any (·.1)=false:=by rfl):QE K X (.Call (.Name x p) (e :: es) [] pos) (tCB r t) (mCB f m):=⟨EX hc hg hm hv ha.p hn hdb he hpl,SL hr ha.r⟩
theorem GQ{id:String}{p:Pos}{r:List V->Hp->VK->Prop}{tp:Bool}{g:List D->Option D}(hc:CallR X (.builtin id) r)(hr:RG K tp r g)(hm:X.mg x=none)(hv:bootBuiltins x=some (.builtin id))(ha:QN K X e te m)(hg:Gl X x:=by rfl)(hn:x ≠ "__name__":=by decide)(hdb:(x == ("__debug__":Str))=false:=by decide)
    (he:starEach [e] X.env=[(false,eval e X.env)]:=by rfl):QE K X (.Call (.Name x p) [e] [] pos) (tCB r (Bp te Ck)) (Cp g m):=⟨FP hc hg hm hv (Cf ha.p Di he) hn hdb he rfl,Ol hr ha.r⟩
theorem Ht{id:String}{p:Pos}{r:List V->Hp->VK->Prop}{tp:Bool}{g:List D->Option D}(hc:CallR X (.type id) r)(hr:RG K tp r g)(hm:X.mg x=none)(hv:bootBuiltins x=some (.type id))(ha:QN K X e te m)(hg:Gl X x:=by rfl)(hn:x ≠ "__name__":=by decide)(hdb:(x == ("__debug__":Str))=false:=by decide)
    (he:starEach [e] X.env=[(false,eval e X.env)]:=by rfl):QE K X (.Call (.Name x p) [e] [] pos) (tCB r (Bp te Ck)) (Cp g m):=⟨EX hc hg hm hv (Cf ha.p Di he) hn hdb he rfl,Ol hr ha.r⟩
theorem RQ{p:Pos}(hm:X.mg "list"=none)(ha:QN K X e te m)(hg:Gl X "list":=by rfl)(he:starEach [e] X.env=[(false,eval e X.env)]:=by rfl)(hK:X.K=K:=by rfl):QN K X (.Call (.Name "list" p) [e] [] pos) (tCB (Jl K) (Bp te Ck)) (JM m):=⟨EX (OK K hK) hg hm NJ (Cf ha.p Di he) (by decide) (by decide) he rfl,Qr ha.r⟩
theorem GP{id:String}{r:V->List V->Hp->VK->Prop}{f:D->List D->Hd->Option (D × Hd)}{name:Str}{apos cpos:Pos}{o:Expr}{to:TE}{mo:ME}(slot:Slot "list" name id)(hty:typeOf (.builtin id)=pure (.type "method_descriptor"))(hm:MtM X id r)(hr:RM K r f)(ho:QE K X o to mo)(ha:QA K X (e :: es) t m)
    (hbase:attributeBase o name X.env (eval o X.env)=eval o X.env:=by rfl)
    (hfew:((backTo cpos (starEach (e :: es) X.env)).all (λ x=>!x.1) && (backToKw cpos (keywordEach [] X.env)).all (λ x=>x.1.isSome)
      && decide ((e :: es).length + ([]:List Keyword).length + (if([]:List Keyword).isEmpty then 0 else 1) < 30))=true:=by rfl)
    (hline:(apos.endLine == cpos.line)=true:=by rfl) (hs:starEach (e :: es) X.env=(false,eval e X.env) :: starEach es X.env:=by rfl) (hplain:(backTo cpos (starEach es X.env)).any (·.1)=false:=by rfl) (hK:X.K=K:=by rfl) :
    QE K X (.Call (.Attribute o name apos) (e :: es) [] cpos) (tBM K "list" r to t) (mMt f mo m):=by
  subst hK
  exact⟨XR PySem.F.plainAttrs_list slot hty hm ho.p ha.p hbase hfew hline hs hplain,XF hr ho.r ha.r⟩
theorem AJ(w:Nat){j k:Nat}{f:Addr}{fd:FuncData}{ps:List Str}{n:Nat}{F:List D->Hd->Option (D × Hd)}{st:Stmt}{p:Pos}(G:FnOk X.prog X.w X.K X.mg X.base CX0 j f fd ps (spF K n F))(hr:Room k X.A)(DA:DefAt X.K X.mg x st f fd ps)(ha:QA K X (e :: es) t m)(hF:∀ ds hd z,F ds hd=some z->ds.length=n)
    (hjk:j <= k:=by decide) (hg:Gl X x:=by rfl) (hdb:(x == ("__debug__":Str))=false:=by decide) (he:starEach (e :: es) X.env=(false,eval e X.env) :: starEach es X.env:=by rfl) (hpl:(backTo pos (starEach es X.env)).any (·.1)=false:=by rfl) :
    QE K X (.Call (.Name x p) (e :: es) [] pos) (FY (spF K n F) [] E0 t) (AK w F m):=⟨Nr G hr DA ha.p hjk hg hdb he hpl,Qx ha.r hF⟩
theorem FN{j k:Nat}{f:Addr}{fd:FuncData}{ps:List Str}{n:Nat}{F:List D->Hd->Option (D × Hd)}{st:Stmt}{p:Pos}(G:FnOk X.prog X.w X.K X.mg X.base CX0 j f fd ps (spF K n F))(hr:Room k X.A)(DA:DefAt X.K X.mg x st f fd ps)(ha:QA K X (e :: es) t m)(hF:∀ ds hd z,F ds hd=some z->ds.length=n)
    (hjk:j <= k:=by decide) (hg:Gl X x:=by rfl) (hdb:(x == ("__debug__":Str))=false:=by decide) (he:starEach (e :: es) X.env=(false,eval e X.env) :: starEach es X.env:=by rfl) (hpl:(backTo pos (starEach es X.env)).any (·.1)=false:=by rfl) :
    QE K X (.Call (.Name x p) (e :: es) [] pos) (FY (spF K n F) [] E0 t) (EA F m):=⟨Nr G hr DA ha.p hjk hg hdb he hpl,Qz ha.r hF⟩
theorem AD{i:Nat}(hN:X.N.Nodup)(hi:X.N[i]? = some x)(hx:Loc X.env.scope x)(hf:X.fn x=true ∨ X.env.scope.names.lookup x=some .local:=by first|exact .inl rfl|exact .inr rfl|assumption):QG K X (.Name x pos) (Ew i) (AG i):=⟨U5 hN hi hx hf,Ho⟩
theorem BJ:QGs K X [] S3 Bi:=⟨U3,TW⟩
theorem AN{tg:TG}{tgs:TGs}{n:MG}{ns:MGs}(h1:QG K X e tg n)(h2:QGs K X es tgs ns)(hs:(assignEach (e :: es) X.env).map (·.2)=assign e X.env :: (assignEach es X.env).map (·.2):=by rfl):QGs K X (e :: es) (O7 tg tgs) (AO n ns):=⟨Rf h1.p h2.p hs,Qt h1.r h2.r⟩
theorem Bn{k n:Nat}{tgs:TGs}{ns:MGs}(hc:X.calm=true)(h:QGs K X es tgs ns)(hK:X.K=K:=by rfl)(hn:(assignEach es X.env).length=n:=by rfl)(hst:(assignEach es X.env).findIdx? (·.1)=none:=by rfl):QG K X (.Tuple es k pos) (O6 K n tgs) (Bh n ns):=⟨U4 K hc h.p hK hn hst,VH h.r⟩
theorem Bm{tg:Expr}(h:QE K X e te me)(hK:X.K=K:=by rfl):QI K X tg e (M4 K te) (BS me):=⟨N4 K h.p hK,Oi h.r⟩
theorem Df{tg:Expr}(h:QE K X e te me)(hK:X.K=K:=by rfl):QI K X tg e (JT K te) (Ca me):=⟨Lk K h.p hK,Mt h.r⟩
theorem Ce{tg:Expr}{p:Pos}(hm:X.mg "range"=none)(ha:QA K X [a] t m)(hg:Gl X "range":=by rfl)(hs:starEach [a] X.env=[(false,eval a X.env)]:=by rfl):QI K X tg (.Call (.Name "range" p) [a] [] pos) (O2 t) (Ek m):=⟨P2 hg hm ha.p hs,TU ha.r⟩
theorem Tl{tg:Expr}{p:Pos}(hm:X.mg "range"=none)(ha:QA K X [a,b] t m)(hg:Gl X "range":=by rfl)(hs:starEach [a,b] X.env=[(false,eval a X.env),(false,eval b X.env)]:=by rfl)(hs2:starEach [b] X.env=[(false,eval b X.env)]:=by rfl):QI K X tg (.Call (.Name "range" p) [a,b] [] pos) (O1 t) (JN m):=⟨P1 hg hm ha.p hs hs2,TR ha.r⟩
theorem At:QF K X [] QL BL:=⟨Vr,V3⟩
theorem Lj(h:QT K X c tA nA):QF K X [c] tA nA:=⟨Vq h.p,h.r⟩
theorem BB{elt tg iter:Expr}{ifs:List Expr}{scope:Scope}{loc fr:List Str}{ix:List Nat}{wi:TI}{g:TG}{tf:TT}{te:TE}{mi:MI}{n:MG}{mf:MT}{mm:ME}(hc:X.calm=true)(S:CSc X scope fr ix)(hi:QI K X tg iter wi mi)
    (hg:∀ s H ex,QG K (cCx X (loc ++ fr) scope s H ex) tg g n) (hf:∀ s H ex,QF K (cCx X (loc ++ fr) scope s H ex) ifs tf mf) (he:∀ s H ex,QE K (cCx X (loc ++ fr) scope s H ex) elt te mm)
    (hs:∀ x,foldedSetIterable iter X.env x=pure x:=by intro _;rfl):QN K X (.ListComp elt [⟨tg,iter,ifs,0⟩] scope pos) (Iu loc.length ix wi g tf te) (BG loc.length ix mi n mf mm):=
  ⟨U8 hc S hi.p (λ s H ex=>(hg s H ex).p) (λ s H ex=>(hf s H ex).p) (λ s H ex=>(he s H ex).p) hs,Ms hi.r (hg X.s₀ X.H₀ []).r (hf X.s₀ X.H₀ []).r (he X.s₀ X.H₀ []).r⟩
theorem BE:QSs K X [] NW B5:=⟨Tq,TC⟩
theorem A8{st:Stmt}{rest:List Stmt}{u v:TS}{m1 m2:MS}(h1:QS K X st u m1)(h2:QSs K X rest v m2):QSs K X (st :: rest) (QP u v) (AE m1 m2):=⟨RY h1.p h2.p,V6 h1.r h2.r⟩
theorem AF{st:Stmt}{u:TS}{m1:MS}(h1:QS K X st u m1):QSs K X [st] u m1:=⟨To h1.p,h1.r⟩
theorem De(he:QE K X e te me)(hs:swapsWith e none pos.line X.env=pure false:=by rfl):QS K X (.Expr e pos) (NY te) (Cr me):=⟨Tt he.p hs,TF he.r⟩
theorem AW(he:QE K X e te me):QS K X (.Return (some e) pos) (QQ te) (AZ me):=⟨Vi he.p,V7 he.r⟩
theorem C5{a b:List Stmt}{u v:TS}{m1 m2:MS}(hc:QT K X c tA nA)(ha:QSs K X a u m1)(hb:QSs K X b v m2):QS K X (.If c a b pos) (QZ tA u v) (BM nA m1 m2):=⟨XO hc.p ha.p hb.p,XD hc.r ha.r hb.r⟩
theorem IU{st:Stmt}:QS K X st L3 HV:=⟨Rb,Ql⟩
theorem J7{tg:Expr}{g:TG}{n:MG}(he:QE K X e te me)(hg:QG K X tg g n)(hs:swapsWithSole [tg] e pos.line X.env=pure false:=by rfl)(hw:swappedStores [tg] e X.env=pure none:=by rfl)
    (h1:(assignEach [tg] X.env).map (·.2)=[assign tg X.env]:=by rfl):QS K X (.Assign [tg] e pos) (FH te g) (FS me n):=⟨Ow he.p hg.p hs hw h1,J0 he.r hg.r⟩
theorem AS{i:Nat}{pos':Pos}(hN:X.N.Nodup)(hi:X.N[i]? = some x)(hx:Loc X.env.scope x)(he:QE K X e te me)(hs:swapsWith e (some (.Name x pos')) pos.line X.env=pure false:=by rfl)(hf:X.fn x=true ∨ X.env.scope.names.lookup x=some .local:=by first|exact .inl rfl|exact .inr rfl|assumption) :
    QS K X (.Assign [.Name x pos'] e pos) (FH te (Ew i)) (AY i me):=⟨Vh hN hi hx he.p hs hf,J0 he.r Ho⟩
theorem Mz{i:Nat}{y:Str}{elt tg iter:Expr}{ifs:List Expr}{scope:Scope}{spos py:Pos}{loc fr:List Str}{ix:List Nat}{wi:TI}{g:TG}{tf:TT}{te:TE}{mi:MI}{n:MG}{mf:MT}{mm:ME}(hN:X.N.Nodup)(hiN:X.N[i]? = some y)(hy:X.env.scope.names.lookup y=some .local)
    (hc:X.calm=true) (S:CSc X scope fr ix) (hi:QI K X tg iter wi mi)
    (hg:∀ s H ex,QG K (cCx X (loc ++ fr) scope s H ex) tg g n) (hf:∀ s H ex,QF K (cCx X (loc ++ fr) scope s H ex) ifs tf mf) (he:∀ s H ex,QE K (cCx X (loc ++ fr) scope s H ex) elt te mm)
    (hsw:swapsWith (.ListComp elt [⟨tg,iter,ifs,0⟩] scope pos) (some (.Name y py)) spos.line X.env=pure true:=by rfl) (hs:∀ x,foldedSetIterable iter X.env x=pure x:=by intro _;rfl) :
    QS K X (.Assign [.Name y py] (.ListComp elt [⟨tg,iter,ifs,0⟩] scope pos) spos) (FH (Iu loc.length ix wi g tf te) (Ew i)) (AY i (BF (BG loc.length ix mi n mf mm))):=
  ⟨Tr hN hiN hy hc S hi.p (λ s H ex=>(hg s H ex).p) (λ s H ex=>(hf s H ex).p) (λ s H ex=>(he s H ex).p) hsw hs,J0 (Oj (Ms hi.r (hg X.s₀ X.H₀ []).r (hf X.s₀ X.H₀ []).r (he X.s₀ X.H₀ []).r)) Ho⟩
theorem HJ{i j:Nat}{x y:Str}{a b:Expr}{px py pt:Pos}{kt k2 pt2}(hc:X.calm=true)(hN:X.N.Nodup)(hi:X.N[i]? = some x)(hj:X.N[j]? = some y)(hij:i ≠ j)
    (hx:X.env.scope.names.lookup x=some .local) (hy:X.env.scope.names.lookup y=some .local) (ha:QA K X [a,b] t m)
    (hw:swappedStores [.Tuple [.Name x px,.Name y py] kt pt] (.Tuple [a,b] k2 pt2) X.env=pure (some [x,y]):=by rfl)
    (hs:swapsWithSole [.Tuple [.Name x px,.Name y py] kt pt] (.Tuple [a,b] k2 pt2) pos.line X.env=pure false:=by rfl) :
    QS K X (.Assign [.Tuple [.Name x px,.Name y py] kt pt] (.Tuple [a,b] k2 pt2) pos) (QU i j t) (FR [i,j] m):=⟨Vj hc hN hi hj hij hx hy ha.p hw,V8 ha.r⟩
theorem Ft{o i value:Expr}{pos':Pos}{to ti tv:TE}{mo mi mv:ME}(ho:QE K X o to mo)(hi:QE K X i ti mi)(hv:QE K X value tv mv)(hs:swapsWithSole [.Subscript o i pos'] value pos.line X.env=pure false:=by rfl)(hw:swappedStores [.Subscript o i pos'] value X.env=pure none:=by rfl)
    (h1:(assignEach [.Subscript o i pos'] X.env).map (·.2)=[assign (.Subscript o i pos') X.env]:=by rfl)
    (ha:∀ v,assign (.Subscript o i pos') X.env v=(do
      let ov <- holding [v] (eval o X.env)
      let iv <- holding [v,ov] (eval i X.env)
      standAt pos'
      holding [v,ov,iv] (setItem ov iv v)
      release [v,ov,iv] []):=by intro _;rfl):QS K X (.Assign [.Subscript o i pos'] value pos) (FH tv (S0 to ti Nm)) (E9 mo mi mv):=⟨Ow hv.p (Vp ho.p hi.p Qf ha) hs hw h1,TD ho.r hi.r hv.r⟩
theorem VZ{i:Nat}{op:Operator}{g:Int->Int->Int}{pos':Pos}(hN:X.N.Nodup)(hi:X.N[i]? = some x)(hx:Loc X.env.scope x)(he:QE K X e te me)(ho:PIp X op (ipI g))(hf:X.fn x=true ∨ X.env.scope.names.lookup x=some .local:=by first|exact .inl rfl|exact .inr rfl|assumption) :
    QS K X (.AugAssign (.Name x pos') op e pos) (L8 i te (ipI g)) (Jv i g me):=⟨Ov hN hi hx he.p ho hf,VA he.r⟩
theorem DC{tg iter:Expr}{body:List Stmt}{wi:TI}{g:TG}{tb:TS}{mi:MI}{n:MG}{mb:MS}(hc:X.calm=true)(hi:QI K X tg iter wi mi)(hg:QG K X tg g n)(hb:QSs K X body tb mb)(hp:PassesOwn (model X.prog X.w) X.A X.env X.xe:=by exact PassesOwn.never)
    (hs:∀ x,foldedSetIterable iter X.env x=pure x:=by intro _;rfl):QS K X (.For tg iter body [] pos) (Qa wi g tb) (Cq mi n mb):=⟨Vk hp hc hi.p hg.p hb.p hs,V9 hi.r hg.r hb.r⟩
theorem Lg{body:List Stmt}{tb:TS}{mb:MS}(hc:QT K X c tA nA)(hb:QSs K X body tb mb)(hp:PassesOwn (model X.prog X.w) X.A X.env X.xe:=by exact PassesOwn.never):QS K X (.While c body [] pos) (L0 tA tb) (EZ nA mb):=⟨RZ hp hc.p hb.p,Qj hc.r hb.r⟩
end
theorem Af{P:Program}{w:World}{K:PySem.W.Frag}{mg:Str->Option Value}{base:Heap}{x:Str}{st:Stmt}{f:Addr}{fd:FuncData}{N ps:List Str}{j:Nat}{m:MS}(DA:DefAt K mg x st f fd ps)(S:FnScope N ps (A9 st))
    (h:∀ (cdv:Value) (A:Around) (outer:List Env) (s:Shared) (H:Hp) (E:XK),Room j (A.deeper (envOfC x (A9 st) s.heap.objs.size f cdv))->∃ t,QSs K (Ih CX0 P w K mg base N x (A9 st) f cdv A outer s H E).nox (AT st) t m) :
    FnOk P w K mg base CX0 (j + 1) f fd ps (spF K ps.length (mkF ps.length N.length m)):=by
  refine DA.fn.ok S (λ vs H Q E h=>h.1) (λ cdv A outer s H vs Q E hr hs=>?_)
  obtain⟨t,q⟩:=h cdv A outer s H E hr
  exact⟨t,q.p,T4 q.r hs⟩
end L2
namespace L2
open PySem PySem.Spec PyProof.Rows
section
variable{X:Cx}{pins:List (Addr × Obj)}{σ:List (Option V)}{H H':Hp}{s:Shared}{h':Heap}
theorem Inv.turns{tk:Nat}{fp:List Addr}(I:Inv X pins σ H s)(k:∀ b o,b ∉ fp->s.heap.get? b=some o->h'.get? b=some o)(hf:∀ b ∈ fp,C6 X pins H b):Inv X pins σ H { s with heap:=h',toks:=tk }:=by
  have out:∀ b u,H b=some u->b ∉ fp:=λ b u e z=>by rw[(hf b z).1]at e;cases e
  have hL:X.env.locals ∉ fp:=λ z=>(hf _ z).2.1 rfl
  refine I.step (g':=s.gens) (d':=s.drawn) (ch:=fp) (λ b hb=>⟨(hf b hb).2.2.2.1,(hf b hb).2.1,(hf b hb).2.2.2.2.1,(hf b hb).2.2.2.2.2⟩) (λ b o _ _ hc e _=>k b o hc e) (λ b o _ _ hc e _=>⟨o.slots,k b o hc e⟩) (λ _ _ _ _ n=>n)
    (λ b o hc e=>⟨o,k b o hc e⟩) (λ _ _ e=>e) (λ _ _ _ e=>e) (λ b ps e=>⟨#[],by rw[e];simp⟩) (λ m hm=>?_) (λ b u e=>?_) I.bare
  . obtain⟨o,es,ep,ho,r⟩:=hm
    exact⟨o,es,ep,k _ o hL ho,r⟩
  . refine(I.hok b u e).stay (λ c v hc q=>k c v ?_ q) (λ _ q=>q) λ _ _ q=>q
    rcases hc with z|z
    . rw[z];exact out b u e
    . exact out c _ z
end
theorem Inv.turnsL{X:Cx}{pins:List (Addr × Obj)}{σ:List (Option V)}{H:Hp}{s:Shared}{h':Heap}{tk:Nat}{fp:List Addr}{a:Addr}{o:HO}(I:Inv X pins σ H s)(k:∀ b o,b ∉ fp->s.heap.get? b=some o->h'.get? b=some o)(hf:∀ b ∈ fp,C6 X pins H b)(ha:s.heap.objs.size <= a)(new:ObjOk X.prog X.w (upd H a o) h' a o) :
    Inv X pins σ (upd H a o) { s with heap:=h',toks:=tk }:=by
  have out:∀ b u,H b=some u->b ∉ fp:=λ b u e z=>by rw[(hf b z).1]at e;cases e
  have hL:X.env.locals ∉ fp:=λ z=>(hf _ z).2.1 rfl
  have fr:H a=none:=I.hok.fresh ha
  refine I.step (g':=s.gens) (d':=s.drawn) (ch:=fp) (λ b hb=>⟨(hf b hb).2.2.2.1,(hf b hb).2.1,(hf b hb).2.2.2.2.1,(hf b hb).2.2.2.2.2⟩) (λ b o _ _ hc e _=>k b o hc e) (λ b o _ _ hc e _=>⟨o.slots,k b o hc e⟩)
    (λ b o _ e n=>by rw[AR (Nat.ne_of_lt (Nat.lt_of_lt_of_le (Heap.lt_size e) ha))];exact n) (λ b o hc e=>⟨o,k b o hc e⟩) (λ b xs e=>by rw[AR (Ap e fr)];exact e) (λ b o u e=>by rw[AR (Ap e fr)];exact e)
    (λ b ps e=>⟨#[],by rw[AR (Ap e fr),e];simp⟩) (λ m hm=>?_) (λ b u e=>?_) I.bare
  . obtain⟨o,es,ep,ho,r⟩:=hm
    exact⟨o,es,ep,k _ o hL ho,r⟩
  . by_cases hb:b=a
    . subst hb;rw[Am]at e;cases e;exact new
    . rw[AR hb]at e
      refine(I.hok b u e).stay (λ c v hc q=>k c v ?_ q) (λ c q=>by rw[AR (Ap q fr)];exact q) λ c xs q=>by rw[AR (Ap q fr)];exact q
      rcases hc with z|z
      . rw[z];exact out b u e
      . exact out c _ z
noncomputable def RowI(tp:Bool)(h:Heap)(it l:Addr)(k:Nat):Prop:=match tp with
  | true=>h.IsTupleIter it l k
  | false=>h.IsListIter it l k
noncomputable def RowL(tp:Bool)(h:Heap)(l:Addr)(xs:Array Value):Prop:=match tp with
  | true=>h.IsTuple l xs
  | false=>h.IsList l xs
theorem RowI.at{tp:Bool}{h h':Heap}{it l:Addr}{k:Nat}(x:RowI tp h it l k)(e:∀ o,h.get? it=some o->h'.get? it=some o):RowI tp h' it l k:=by
  cases tp with
  | true=>exact Heap.IsTupleIter.at x e
  | false=>exact Heap.IsListIter.at x e
theorem RowL.at{tp:Bool}{h h':Heap}{l:Addr}{xs:Array Value}(x:RowL tp h l xs)(e:∀ o,h.get? l=some o->h'.get? l=some o):RowL tp h' l xs:=by
  cases tp with
  | true=>obtain⟨o,e1,r⟩:=(show h.IsTuple l xs from x);exact⟨o,e _ e1,r⟩
  | false=>obtain⟨o,e1,r⟩:=(show h.IsList l xs from x);exact⟨o,e _ e1,r⟩
theorem RowI.obj{tp:Bool}{h:Heap}{it l:Addr}{k:Nat}(x:RowI tp h it l k):∃ o,h.get? it=some o/\o.data=.fields #[.ref l,.int k 0]:=by
  cases tp with
  | true=>obtain⟨o,e,_,d⟩:=(show h.IsTupleIter it l k from x);exact⟨o,e,d⟩
  | false=>obtain⟨o,e,_,d⟩:=(show h.IsListIter it l k from x);exact⟨o,e,d⟩
theorem RowL.obj{tp:Bool}{h:Heap}{l:Addr}{xs:Array Value}(x:RowL tp h l xs):∃ o n,h.get? l=some o/\o.data=.seq xs n:=by
  cases tp with
  | true=>obtain⟨o,e,_,n,d⟩:=(show h.IsTuple l xs from x);exact⟨o,n,e,d⟩
  | false=>obtain⟨o,e,_,n,d⟩:=(show h.IsList l xs from x);exact⟨o,n,e,d⟩
section
variable{prog:Program}{w:World}{A:Around}{E:Value->Shared->Prop}{s:Shared}{it l:Addr}{k:Nat}{xs:Array Value}{x:Value}
theorem QJ(hit:s.heap.IsTupleIter it l k)(hl:s.heap.IsTuple l xs)(hx:xs[k]? = some x){Q:Value->Shared->Prop}(hQ:∀ g,g.IsTupleIter it l (k + 1)->Heap.SameBut it s.heap g->Q x { s with heap:=g }) :
    wpAny (model prog w) A (Builtin.SmallTypes.nextOf (.ref it)) Q E s:=by
  obtain⟨o,eo,ec,ed⟩:=id hit
  obtain⟨ol,el,_,nl,edl⟩:=hl
  unfold Builtin.SmallTypes.nextOf
  refine wpAny_bind (wpAny_callSpecial?_slot (name:=Str.ofString "__next__") hit.typeIs PyProof.Rows.slot_tupleiter_next (wpAny_call_entry PyProof.Rows.slot_tupleiter_next hit.typeIs PyProof.Rows.entry_tupleiter_next ?_ (PyProof.Rows.args_tupleiter_next _)))
  show wpAny _ _ (field (.ref it) 0 >>= _) _ _ s
  refine wpAny_bind (wpAny_field eo ed (x:=.ref l) rfl ?_)
  show wpAny _ _ (if(Value.ref l == Value.none)=true then _ else _) _ _ s
  rw[if_neg (show ¬ (Value.ref l == Value.none)=true from Bool.false_ne_true)]
  show wpAny _ _ (field (.ref it) 1 >>= _) _ _ s
  refine wpAny_bind (wpAny_field eo ed (x:=.int k 0) rfl ?_)
  show wpAny _ _ (seqItems? (.ref l) >>= _) _ _ s
  refine wpAny_bind (wpAny_seqItems el edl ?_)
  simp only[Int.toNat_natCast,hx]
  refine wpAny_bind (wpAny_setField eo ed (by simp) (wpAny_pure ⟨x,rfl,wpAny_pure (hQ _ ⟨_,Heap.get?_update_self _ eo (Obj.isFreed_of_fields (Obj.data_mapFields ed _)),(Obj.cls_mapFields ..).trans ec,?_⟩ (Heap.SameBut.update ..))⟩))
  rw[Obj.data_mapFields ed];simp[rawInt]
theorem QH(hh:A.handled=none)(hit:s.heap.IsTupleIter it l k)(hl:s.heap.IsTuple l xs)(hx:xs[k]? = none){Q:Value->Shared->Prop}(hE:∀ g e,Heap.ExtBut it s.heap g->(∃ o,g.get? e=some o/\o.cls=.type "StopIteration")->E (.ref e) { s with heap:=g }) :
    wpAny (model prog w) A (Builtin.SmallTypes.nextOf (.ref it)) Q E s:=by
  obtain⟨o,eo,ec,ed⟩:=id hit
  obtain⟨ol,el,_,nl,edl⟩:=hl
  unfold Builtin.SmallTypes.nextOf
  refine wpAny_bind (wpAny_callSpecial?_slot (name:=Str.ofString "__next__") hit.typeIs PyProof.Rows.slot_tupleiter_next (wpAny_call_entry PyProof.Rows.slot_tupleiter_next hit.typeIs PyProof.Rows.entry_tupleiter_next ?_ (PyProof.Rows.args_tupleiter_next _)))
  show wpAny _ _ (field (.ref it) 0 >>= _) _ _ s
  refine wpAny_bind (wpAny_field eo ed (x:=.ref l) rfl ?_)
  show wpAny _ _ (if(Value.ref l == Value.none)=true then _ else _) _ _ s
  rw[if_neg (show ¬ (Value.ref l == Value.none)=true from Bool.false_ne_true)]
  show wpAny _ _ (field (.ref it) 1 >>= _) _ _ s
  refine wpAny_bind (wpAny_field eo ed (x:=.int k 0) rfl ?_)
  show wpAny _ _ (seqItems? (.ref l) >>= _) _ _ s
  refine wpAny_bind (wpAny_seqItems el edl ?_)
  simp only[Int.toNat_natCast,hx]
  refine wpAny_bind (wpAny_rule (wpAny_bind (wpAny_setField eo ed (by simp) ?_)))
  show wpAny _ _ (newExc (.type "StopIteration") [] >>= _) _ _ _
  refine wpAny_bind ?_
  simp only[newExc,newTuple]
  refine wpAny_bind (wpAny_newObj_type ?_ (by size_fits))
  refine wpAny_bind (m:=firstArgMember _ _) (wpAny_of_eq (a:=Value.none) (by first|rfl|(simp only[firstArgMember];rfl)) ?_)
  refine wpAny_newObj_type ?_ (by size_fits)
  simp only[raiseNew]
  refine wpAny_bind (wpAny_handled ?_)
  first|rw[show A.in1.handled=none from hh]|rw[hh]
  exact wpAny_bind (wpAny_pure (wpAny_throw (hE _ _ (((Heap.SameBut.update ..).extBut.push _).push _) ⟨_,Heap.get?_push_size _ rfl,rfl⟩)))
theorem IP{tp:Bool}(hit:RowI tp s.heap it l k)(hl:RowL tp s.heap l xs)(hx:xs[k]? = some x){Q:Value->Shared->Prop}(hQ:∀ g,RowI tp g it l (k + 1)->Heap.SameBut it s.heap g->Q x { s with heap:=g }) :
    wpAny (model prog w) A (Builtin.SmallTypes.nextOf (.ref it)) Q E s:=by
  cases tp with
  | true=>exact QJ hit hl hx hQ
  | false=>exact wpAny_nextOf_list_item hit hl hx hQ
theorem LR{tp:Bool}(hh:A.handled=none)(hit:RowI tp s.heap it l k)(hl:RowL tp s.heap l xs)(hx:xs[k]? = none){Q:Value->Shared->Prop}(hE:∀ g e,Heap.ExtBut it s.heap g->(∃ o,g.get? e=some o/\o.cls=.type "StopIteration")->E (.ref e) { s with heap:=g }) :
    wpAny (model prog w) A (Builtin.SmallTypes.nextOf (.ref it)) Q E s:=by
  cases tp with
  | true=>exact QH hh hit hl hx hE
  | false=>exact wpAny_nextOf_list_end hh hit hl hx hE
end
structure ZAt(t1 t2:Bool)(h:Heap)(z a b i1 i2 l1 l2:Addr)(f0:Value)(j k:Nat):Prop where
  z:IsZip h z a b f0
  p:IsPair h a (.ref i1) (.ref i2)
  o:∃ u v,IsPair h b u v
  r1:RowI t1 h i1 l1 j
  r2:RowI t2 h i2 l2 k
structure ZNe(z a b i1 i2 l1 l2:Addr):Prop where
  az:a ≠ z
  bz:b ≠ z
  iz:i1 ≠ z
  jz:i2 ≠ z
  ab:a ≠ b
  ai:a ≠ i1
  aj:a ≠ i2
  bi:b ≠ i1
  bj:b ≠ i2
  ij:i1 ≠ i2
  lz:l1 ≠ z
  lb:l1 ≠ b
  li:l1 ≠ i1
  lj:l1 ≠ i2
  mz:l2 ≠ z
  mb:l2 ≠ b
  mi:l2 ≠ i1
  mj:l2 ≠ i2
section
variable{prog:Program}{w:World}{A:Around}{E:Value->Shared->Prop}{s:Shared}{t1 t2:Bool}{z a b i1 i2 l1 l2:Addr}{j k:Nat}{xs ys:Array Value}{x y:Value}
noncomputable abbrev OM(z b i1 i2:Addr)(h h':Heap):Prop:=∀ c o,c ≠ z->c ≠ b->c ≠ i1->c ≠ i2->h.get? c=some o->h'.get? c=some o
theorem Q5(N:ZNe z a b i1 i2 l1 l2)(Z:ZAt t1 t2 s.heap z a b i1 i2 l1 l2 .none j k)(hl1:RowL t1 s.heap l1 xs)(hl2:RowL t2 s.heap l2 ys)(hx:xs[j]? = some x)(hy:ys[k]? = some y){Q:Value->Shared->Prop}
    (hQ:∀ g,ZAt t1 t2 g z a b i1 i2 l1 l2 (rawInt s.heap.objs.size) (j + 1) (k + 1)->IsPair g s.heap.objs.size x y->OM z b i1 i2 s.heap g->Q (.ref s.heap.objs.size) { s with heap:=g }) :
    wpAny (model prog w) A (Builtin.«zip.__next__» ⟨[.ref z],[]⟩) (λ fin s'=>∃ v,fin=.done (.ret v)/\Q v s') E s:=by
  obtain⟨hz,hp,⟨u,v,hb⟩,q1,q2⟩:=Z
  show wpAny _ _ (field (.ref z) 2 >>= _) _ _ _
  refine wpAny_bind (wpAny_field hz rfl (x:=.bool false) rfl ?_)
  show wpAny _ _ (field (.ref z) 3 >>= _) _ _ _
  refine wpAny_bind (wpAny_field hz rfl (x:=.ref a) rfl (wpAny_bind (wpAny_seqItems hp rfl ?_)))
  show wpAny _ _ (Builtin.SmallTypes.ownedTupleIsFree (.ref z) >>= _) _ _ _
  unfold Builtin.SmallTypes.ownedTupleIsFree
  refine wpAny_bind (wpAny_bind (wpAny_field hz rfl (x:=.none) rfl (wpAny_pure ?_)))
  simp only[if_true]
  refine wpAny_bind (wpAny_rule (wpAny_bind (wpAny_field hz rfl (x:=.ref b) rfl ?_)))
  refine wpAny_bind (wpAny_setField_rec hz (by simp) λ g1 z1 s1=>?_)
  have z1:IsZip g1 z a b .ellipsis:=z1
  refine wpAny_bind ?_
  simp only[List.zipIdx_cons,List.zipIdx_nil,List.forIn_cons,List.forIn_nil]
  refine wpAny_bind (wpAny_bind (wpAny_onRaise ?_))
  show wpAny _ _ (Builtin.SmallTypes.nextOf (.ref i1) >>= _) _ _ _
  refine wpAny_bind (IP (s:={ s with heap:=g1 }) (q1.at λ o e=>s1.extBut _ _ N.iz e) (hl1.at λ o e=>s1.extBut _ _ N.lz e) hx λ g2 r2 s2=>wpAny_pure ?_)
  have b2:IsPair g2 b u v:=s2.extBut _ _ N.bi (s1.extBut _ _ N.bz hb)
  refine wpAny_bind (wpAny_seqItems b2 rfl (wpAny_bind (wpAny_updateSeq_pair b2 λ g3 b3 s3=>?_)))
  have b3:IsPair g3 b x v:=b3
  refine wpAny_bind (wpAny_letGo (wpAny_pure (wpAny_bind (wpAny_bind (wpAny_onRaise ?_)))))
  show wpAny _ _ (Builtin.SmallTypes.nextOf (.ref i2) >>= _) _ _ _
  have q3:RowI t2 g3 i2 l2 k:=q2.at λ o e=>s3.extBut _ _ N.bj.symm (s2.extBut _ _ N.ij.symm (s1.extBut _ _ N.jz e))
  have m3:RowL t2 g3 l2 ys:=hl2.at λ o e=>s3.extBut _ _ N.mb (s2.extBut _ _ N.mi (s1.extBut _ _ N.mz e))
  refine wpAny_bind (IP (s:={ s with heap:=g3 }) q3 m3 hy λ g4 r4 s4=>wpAny_pure ?_)
  have b4:IsPair g4 b x v:=s4.extBut _ _ N.bj b3
  refine wpAny_bind (wpAny_seqItems b4 rfl (wpAny_bind (wpAny_updateSeq_pair b4 λ g5 b5 s5=>?_)))
  have b5:IsPair g5 b x y:=b5
  refine wpAny_bind (wpAny_letGo (wpAny_pure (wpAny_pure (wpAny_bind (wpAny_seqItems b5 rfl (wpAny_bind (wpAny_newTuple ?_)))))))
  have sz:g5.objs.size=s.heap.objs.size:=by rw[s5.1,s4.1,s3.1,s2.1,s1.1]
  have z5:IsZip g5 z a b .ellipsis:=s5.extBut _ _ N.bz.symm (s4.extBut _ _ N.jz.symm (s3.extBut _ _ N.bz.symm (s2.extBut _ _ N.iz.symm z1)))
  have kp:OM z b i1 i2 s.heap g5:=λ c o c1 c2 c3 c4 e=>s5.extBut _ _ c2 (s4.extBut _ _ c4 (s3.extBut _ _ c2 (s2.extBut _ _ c3 (s1.extBut _ _ c1 e))))
  have w1:RowI t1 g5 i1 l1 (j + 1):=r2.at λ o e=>s5.extBut _ _ N.bi.symm (s4.extBut _ _ N.ij (s3.extBut _ _ N.bi.symm e))
  have w2:RowI t2 g5 i2 l2 (k + 1):=r4.at λ o e=>s5.extBut _ _ N.bj.symm e
  have zlt:=Heap.lt_size z5
  show wpAny _ _ (Builtin.SmallTypes.ownedTupleHandOut (.ref z) (.ref g5.objs.size) >>= _) _ _ _
  unfold Builtin.SmallTypes.ownedTupleHandOut
  have z6:IsZip (g5.push { cls:=.type "tuple",data:=.seq #[x,y] }) z a b .ellipsis:=Heap.get?_push_of_some _ z5
  refine wpAny_bind (wpAny_bind (wpAny_setField_rec z6 (by simp) λ g7 z7 s7=>?_))
  have z7:IsZip g7 z a b (rawInt g5.objs.size):=z7
  refine wpAny_setField_rec z7 (by simp) λ g8 z8 s8=>wpAny_pure ⟨_,rfl,?_⟩
  have z8:IsZip g8 z a b (rawInt g5.objs.size):=z8
  have up:∀ c o,c ≠ z->g5.get? c=some o->g8.get? c=some o:=λ c o c1 e=>s8.extBut _ _ c1 (s7.extBut _ _ c1 (Heap.get?_push_of_some _ e))
  have t8:IsPair g8 g5.objs.size x y:=s8.extBut _ _ (Nat.ne_of_gt zlt) (s7.extBut _ _ (Nat.ne_of_gt zlt) (Heap.get?_push_size _ rfl))
  show Q (.ref g5.objs.size) _
  rw[sz]at z8 t8 ⊢
  exact hQ g8 ⟨z8,up _ _ N.az (kp _ _ N.az N.ab N.ai N.aj hp),⟨_,_,up _ _ N.bz b5⟩,w1.at λ o e=>up _ o N.iz e,w2.at λ o e=>up _ o N.jz e⟩ t8 λ c o c1 c2 c3 c4 e=>up c o c1 (kp c o c1 c2 c3 c4 e)
theorem Q4(hh:A.handled=none)(N:ZNe z a b i1 i2 l1 l2)(Z:ZAt t1 t2 s.heap z a b i1 i2 l1 l2 .none j k)(hl1:RowL t1 s.heap l1 xs)(hl2:RowL t2 s.heap l2 ys)(hend:xs[j]? = none ∨ ys[k]? = none){Q:Fin->Shared->Prop}
    (hE:∀ g e,OM z b i1 i2 s.heap g->(∃ o,g.get? e=some o/\o.cls=.type "StopIteration")->E (.ref e) { s with heap:=g }) :
    wpAny (model prog w) A (Builtin.«zip.__next__» ⟨[.ref z],[]⟩) Q E s:=by
  obtain⟨hz,hp,⟨u,v,hb⟩,q1,q2⟩:=Z
  show wpAny _ _ (field (.ref z) 2 >>= _) _ _ _
  refine wpAny_bind (wpAny_field hz rfl (x:=.bool false) rfl ?_)
  show wpAny _ _ (field (.ref z) 3 >>= _) _ _ _
  refine wpAny_bind (wpAny_field hz rfl (x:=.ref a) rfl (wpAny_bind (wpAny_seqItems hp rfl ?_)))
  show wpAny _ _ (Builtin.SmallTypes.ownedTupleIsFree (.ref z) >>= _) _ _ _
  unfold Builtin.SmallTypes.ownedTupleIsFree
  refine wpAny_bind (wpAny_bind (wpAny_field hz rfl (x:=.none) rfl (wpAny_pure ?_)))
  simp only[if_true]
  refine wpAny_bind (wpAny_rule (wpAny_bind (wpAny_field hz rfl (x:=.ref b) rfl ?_)))
  refine wpAny_bind (wpAny_setField_rec hz (by simp) λ g1 z1 s1=>?_)
  have z1:IsZip g1 z a b .ellipsis:=z1
  refine wpAny_bind ?_
  simp only[List.zipIdx_cons,List.zipIdx_nil,List.forIn_cons,List.forIn_nil]
  refine wpAny_bind (wpAny_bind (wpAny_onRaise ?_))
  show wpAny _ _ (Builtin.SmallTypes.nextOf (.ref i1) >>= _) _ _ _
  have o1:RowI t1 g1 i1 l1 j:=q1.at λ o e=>s1.extBut _ _ N.iz e
  have m1:RowL t1 g1 l1 xs:=hl1.at λ o e=>s1.extBut _ _ N.lz e
  cases hx:xs[j]? with
  | none=>
    refine wpAny_bind (LR (s:={ s with heap:=g1 }) hh o1 m1 hx λ g2 e s2 he=>?_)
    obtain⟨oe,he1,he2⟩:=he
    have z2:IsZip g2 z a b .ellipsis:=s2 _ _ N.iz.symm z1
    have ne:e ≠ z:=λ q=>by subst q;rw[z2]at he1;cases he1;simp at he2
    exact wpAny_setField_rec z2 (by simp) λ g3 _ s3=>hE g3 e (λ c o c1 _ c3 _ q=>s3.extBut _ _ c1 (s2 _ _ c3 (s1.extBut _ _ c1 q))) ⟨oe,s3.extBut _ _ ne he1,he2⟩
  | some x=>
    have hy:ys[k]? = none:=by
      rcases hend with q|q
      . rw[hx]at q;cases q
      . exact q
    refine wpAny_bind (IP (s:={ s with heap:=g1 }) o1 m1 hx λ g2 r2 s2=>wpAny_pure ?_)
    have b2:IsPair g2 b u v:=s2.extBut _ _ N.bi (s1.extBut _ _ N.bz hb)
    refine wpAny_bind (wpAny_seqItems b2 rfl (wpAny_bind (wpAny_updateSeq_pair b2 λ g3 b3 s3=>?_)))
    refine wpAny_bind (wpAny_letGo (wpAny_pure (wpAny_bind (wpAny_bind (wpAny_onRaise ?_)))))
    show wpAny _ _ (Builtin.SmallTypes.nextOf (.ref i2) >>= _) _ _ _
    have q3:RowI t2 g3 i2 l2 k:=q2.at λ o e=>s3.extBut _ _ N.bj.symm (s2.extBut _ _ N.ij.symm (s1.extBut _ _ N.jz e))
    have m3:RowL t2 g3 l2 ys:=hl2.at λ o e=>s3.extBut _ _ N.mb (s2.extBut _ _ N.mi (s1.extBut _ _ N.mz e))
    refine wpAny_bind (LR (s:={ s with heap:=g3 }) hh q3 m3 hy λ g4 e s4 he=>?_)
    obtain⟨oe,he1,he2⟩:=he
    have z4:IsZip g4 z a b .ellipsis:=s4 _ _ N.jz.symm (s3.extBut _ _ N.bz.symm (s2.extBut _ _ N.iz.symm z1))
    have ne:e ≠ z:=λ q=>by subst q;rw[z4]at he1;cases he1;simp at he2
    exact wpAny_setField_rec z4 (by simp) λ g5 _ s5=>hE g5 e (λ c o c1 c2 c3 c4 q=>s5.extBut _ _ c1 (s4 _ _ c4 (s3.extBut _ _ c2 (s2.extBut _ _ c3 (s1.extBut _ _ c1 q))))) ⟨oe,s5.extBut _ _ ne he1,he2⟩
end
noncomputable def SqS(K:PySem.W.Frag)(tp:Bool)(H:Hp)(a:Addr)(xs:List V):Prop:=match tp with
  | true=>SqT K H a xs
  | false=>SqL K H a xs
noncomputable def Itz(K:PySem.W.Frag)(t1 t2:Bool)(a b:Addr):It:=
  ⟨λ i H=>∃ xs ys x y,SqS K t1 H a xs/\SqS K t2 H b ys/\xs[i]? = some x/\ys[i]? = some y,
   λ i H x H'=>∃ p u v,H p=none/\H'=upd H p (.tup [u,v])/\x=.ref p/\(∀ xs,SqS K t1 H a xs->xs[i]? = some u)/\∀ ys,SqS K t2 H b ys->ys[i]? = some v,
   λ i H=>∃ xs ys,SqS K t1 H a xs/\SqS K t2 H b ys/\(xs.length <= i ∨ ys.length <= i)⟩
section
variable{X:Cx}{pins:List (Addr × Obj)}{σ:List (Option V)}{H:Hp}{s:Shared}
theorem Inv.row{tp:Bool}{a:Addr}{xs:List V}(I:Inv X pins σ H s)(h:SqS X.K tp H a xs):∃ its:List Value,Vals xs its/\RowL tp s.heap a its.toArray/\xs.length <= sizeLine:=by
  cases tp with
  | true=>obtain⟨its,r,p,z⟩:=I.tuple h;exact⟨its,r,(show s.heap.IsTuple a its.toArray from p),z⟩
  | false=>obtain⟨its,r,p,z⟩:=I.list h;exact⟨its,r,p.isList,z⟩
theorem Inv.row_inj{tp:Bool}{a:Addr}{xs ys:List V}(I:Inv X pins σ H s)(h:SqS X.K tp H a xs)(h':SqS X.K tp H a ys):xs=ys:=by
  cases tp with
  | true=>exact I.tuple_inj h h'
  | false=>exact I.list_inj h h'
end
theorem RowL.lt{tp:Bool}{h:Heap}{l:Addr}{xs:Array Value}(x:RowL tp h l xs):l < h.objs.size:=by
  obtain⟨o,n,e,_⟩:=x.obj;exact Heap.lt_size e
theorem Ui{M:Model}{A:Around}{E:Value->Shared->Prop}{s:Shared}{elts:List Expr}{x1}{pos:Pos}{z a b T:Addr}{Q:Unit->Shared->Prop}(hz:IsZip s.heap z a b (rawInt T)){prog:Program}{w:World}
    (hQ:∀ g,IsZip g z a b .none->Heap.SameBut z s.heap g->Q () { s with heap:=g }):wpAny (model prog w) A (letOwnedTupleGo (.Tuple elts x1 pos) (.ref z) (.ref T)) Q E s:=wpAny_letOwnedTupleGo_zip hz hQ
theorem QD{P:Program}{w:World}{K:PySem.W.Frag}{elts:List Expr}{kk:Nat}{tpos:Pos}{t1 t2:Bool}{z a b i1 i2 l1 l2:Addr}(N:ZNe z a b i1 i2 l1 l2):Turn P w K (.Tuple elts kk tpos) (Itz K t1 t2 l1 l2) [z,a,b,i1,i2] z (λ i h=>ZAt t1 t2 h z a b i1 i2 l1 l2 .none i i) where
  mem:=by simp
  obj:=λ i h st c hc=>by
    obtain⟨hz,hp,⟨u,v,hb⟩,q1,q2⟩:=st
    simp only[List.mem_cons,List.not_mem_nil,or_false]at hc
    rcases hc with rfl|rfl|rfl|rfl|rfl
    . exact⟨_,hz,λ v z=>by cases(show Data.fields _=Data.cell v from z)⟩
    . exact⟨_,hp,λ v z=>by cases(show Data.seq _ _=Data.cell v from z)⟩
    . exact⟨_,hb,λ v z=>by cases(show Data.seq _ _=Data.cell v from z)⟩
    . obtain⟨o,e,d⟩:=q1.obj;exact⟨o,e,λ v z=>by rw[d]at z;cases z⟩
    . obtain⟨o,e,d⟩:=q2.obj;exact⟨o,e,λ v z=>by rw[d]at z;cases z⟩
  keep:=λ i h h' st k=>by
    obtain⟨hz,hp,⟨u,v,hb⟩,q1,q2⟩:=st
    exact⟨k z (by simp) _ hz,k a (by simp) _ hp,⟨u,v,k b (by simp) _ hb⟩,q1.at λ o e=>k i1 (by simp) o e,q2.at λ o e=>k i2 (by simp) o e⟩
  item:=by
    intro X hP hw hK hc i pins s σ H E I hf st hg
    subst hP hw hK
    obtain⟨xs,ys,x,y,h1,h2,hx,hy⟩:=hg
    obtain⟨ix,rx,px,zx⟩:=I.row h1
    obtain⟨iy,ry,py,zy⟩:=I.row h2
    obtain⟨u,hu,ru⟩:=rx.get hx
    obtain⟨v,hv,rv⟩:=ry.get hy
    have hT:s.TypeIs (.ref z) "zip":=⟨_,st.z,rfl⟩
    unfold pyNext
    refine wpAny_bind (wpAny_attempt (wpAny_callSpecial?_slot (name:=Str.ofString "__next__") hT F.slot_zip_next (wpAny_call_entry F.slot_zip_next hT F.entry_zip_next
      (Q5 N st px py (x:=u) (y:=v) (by simpa using hu) (by simpa using hv) λ g Z g5 kp=>wpAny_pure ⟨_,rfl,?_⟩) (F.args_zip_next_1 _))))
    refine Ui (M:=model X.prog X.w) (s:={ s with heap:=g }) Z.z λ g' z' sb=>?_
    have kp2:∀ c o,c ∉ [z,a,b,i1,i2]->s.heap.get? c=some o->g'.get? c=some o:=λ c o nc e=>by
      simp only[List.mem_cons,List.not_mem_nil,or_false,not_or]at nc
      exact sb.extBut _ _ nc.1 (kp c o nc.1 nc.2.2.1 nc.2.2.2.1 nc.2.2.2.2 e)
    have hTz:s.heap.objs.size ≠ z:=Nat.ne_of_gt (Heap.lt_size st.z)
    have hpair:IsPair g' s.heap.objs.size u v:=sb.extBut _ _ hTz g5
    have fresh:H s.heap.objs.size=none:=I.hok.fresh (Nat.le_refl _)
    have I2:Inv X pins σ (upd H s.heap.objs.size (.tup [x,y])) { s with heap:=g' }:=I.turnsL (tk:=s.toks) (o:=.tup [x,y]) kp2 hf (Nat.le_refl _)
      (show ObjOk X.prog X.w _ g' _ (.tup [x,y])from⟨by show 2 <= sizeLine;decide,[u,v],.cons ru (.cons rv .nil),⟨_,hpair,rfl,⟨_,rfl⟩,rfl⟩⟩)
    refine⟨.ref s.heap.objs.size,_,I2,rfl,⟨_,x,y,fresh,rfl,rfl,λ xs' q=>by rw[I.row_inj q h1];exact hx,λ ys' q=>by rw[I.row_inj q h2];exact hy⟩,⟨z',?_,?_,?_,?_⟩,λ c hc=>?_⟩
    . exact sb.extBut _ _ N.az Z.p
    . obtain⟨p,q,e⟩:=Z.o;exact⟨p,q,sb.extBut _ _ N.bz e⟩
    . exact Z.r1.at λ o e=>sb.extBut _ _ N.iz e
    . exact Z.r2.at λ o e=>sb.extBut _ _ N.jz e
    . have lt:c < s.heap.objs.size:=by
        obtain⟨hz,hp,⟨u,v,hb⟩,q1,q2⟩:=st
        simp only[List.mem_cons,List.not_mem_nil,or_false]at hc
        rcases hc with rfl|rfl|rfl|rfl|rfl
        . exact Heap.lt_size hz
        . exact Heap.lt_size hp
        . exact Heap.lt_size hb
        . obtain⟨o,e,_⟩:=q1.obj;exact Heap.lt_size e
        . obtain⟨o,e,_⟩:=q2.obj;exact Heap.lt_size e
      rw[AR (Nat.ne_of_lt lt)]
      exact(hf c hc).1
  done:=by
    intro X hP hw hK hc i pins s σ H E I hf st hg
    subst hP hw hK
    obtain⟨xs,ys,h1,h2,hend⟩:=hg
    obtain⟨ix,rx,px,zx⟩:=I.row h1
    obtain⟨iy,ry,py,zy⟩:=I.row h2
    have l1':=rx.length
    have l2':=ry.length
    have hT:s.TypeIs (.ref z) "zip":=⟨_,st.z,rfl⟩
    unfold pyNext
    refine wpAny_bind (wpAny_attempt (wpAny_callSpecial?_slot (name:=Str.ofString "__next__") hT F.slot_zip_next (wpAny_call_entry F.slot_zip_next hT F.entry_zip_next
      (Q4 (A:=X.A.in1) (show X.A.in1.handled=none from I.ok.hd hc) N st px py (hend.imp (λ q=>by simp;omega) λ q=>by simp;omega) λ g e kp he=>?_) (F.args_zip_next_1 _))))
    obtain⟨o,ho,hcl⟩:=he
    refine wpAny_bind (wpAny_isInstance (T:="StopIteration") (b:=true) ⟨o,ho,hcl⟩ isSubtype_stop (wpAny_pure ⟨rfl,?_⟩))
    exact I.turns (tk:=s.toks) (λ c o nc e=>by
      simp only[List.mem_cons,List.not_mem_nil,or_false,not_or]at nc
      exact kp c o nc.1 nc.2.2.1 nc.2.2.2.1 nc.2.2.2.2 e) hf
  self:=λ _ _ _ _ _ st h=>wpAny_pyIter_zip st.z h
end L2
namespace L2
open PySem PySem.Spec PyProof.Rows
noncomputable abbrev EO(tp:Bool)(l:Addr):Obj:={ cls:=.type (match tp with|true=>"tuple_iterator" | false=>"list_iterator"),data:=.fields #[.ref l,.int 0 0] }
noncomputable abbrev zh1(t1:Bool)(h:Heap)(l1:Addr):Heap:=h.push (EO t1 l1)
noncomputable abbrev zh2(t1 t2:Bool)(h:Heap)(l1 l2:Addr):Heap:=(zh1 t1 h l1).push (EO t2 l2)
noncomputable abbrev zh3(t1 t2:Bool)(h:Heap)(l1 l2:Addr):Heap:=(zh2 t1 t2 h l1 l2).push { cls:=.type "tuple",data:=.seq #[.ref h.objs.size,.ref (zh1 t1 h l1).objs.size] }
noncomputable abbrev zh4(t1 t2:Bool)(h:Heap)(l1 l2:Addr):Heap:=(zh3 t1 t2 h l1 l2).push { cls:=.type "tuple",data:=.seq #[.none,.none] }
noncomputable abbrev zh5(t1 t2:Bool)(h:Heap)(l1 l2:Addr):Heap:=(zh4 t1 t2 h l1 l2).push { cls:=.type "zip",data:=.fields #[.none,.bool false,.bool false,.ref (zh2 t1 t2 h l1 l2).objs.size,.ref (zh3 t1 t2 h l1 l2).objs.size] }
set_option maxHeartbeats 4000000 in
theorem Q6(t1 t2:Bool)(l1 l2:Addr)(xs ys:Array Value) :
    Meets (Builtin.«zip.__new__» ⟨[.type "zip",.ref l1,.ref l2],[]⟩) (λ _ R s=>RowL t1 s.heap l1 xs/\RowL t2 s.heap l2 ys/\R (.ok (.ret (.ref (zh4 t1 t2 s.heap l1 l2).objs.size))) { s with heap:=zh5 t1 t2 s.heap l1 l2 }):=
  .of_wp λ prog w A R s h=>by
    obtain⟨hp,g,d,tk,os⟩:=s
    obtain⟨q1,q2,h⟩:=h
    have hsub:=sub_zip
    have q2':RowL t2 (hp.push (EO t1 l1)) l2 ys:=q2.at λ o e=>Heap.get?_push_of_some _ e
    cases t1 <;> cases t2
    . have p1:Heap.IsList (Shared.heap ⟨hp,g,d,tk,os⟩) l1 xs:=q1
      have p2:Heap.IsList (Shared.heap ⟨hp.push (EO false l1),g,d,tk,os⟩) l2 ys:=q2'
      wp_walk using wpAny_pyIter_list p1,wpAny_pyIter_list p2
      exact⟨_,rfl,h⟩
    . have p1:Heap.IsList (Shared.heap ⟨hp,g,d,tk,os⟩) l1 xs:=q1
      have p2:Heap.IsTuple (Shared.heap ⟨hp.push (EO false l1),g,d,tk,os⟩) l2 ys:=q2'
      wp_walk using wpAny_pyIter_list p1,wpAny_pyIter_tuple p2
      exact⟨_,rfl,h⟩
    . have p1:Heap.IsTuple (Shared.heap ⟨hp,g,d,tk,os⟩) l1 xs:=q1
      have p2:Heap.IsList (Shared.heap ⟨hp.push (EO true l1),g,d,tk,os⟩) l2 ys:=q2'
      wp_walk using wpAny_pyIter_tuple p1,wpAny_pyIter_list p2
      exact⟨_,rfl,h⟩
    . have p1:Heap.IsTuple (Shared.heap ⟨hp,g,d,tk,os⟩) l1 xs:=q1
      have p2:Heap.IsTuple (Shared.heap ⟨hp.push (EO true l1),g,d,tk,os⟩) l2 ys:=q2'
      wp_walk using wpAny_pyIter_tuple p1,wpAny_pyIter_tuple p2
      exact⟨_,rfl,h⟩
theorem Ss{n l1 l2:Addr}(h1:l1 < n)(h2:l2 < n):ZNe (n + 4) (n + 2) (n + 3) n (n + 1) l1 l2:=by
  have k1:@LT.lt Nat _ l1 n:=h1
  have k2:@LT.lt Nat _ l2 n:=h2
  constructor <;> (intro z;have z:@Eq Nat _ _:=z;omega)
theorem Mq{tp:Bool}{h:Heap}{a l:Addr}(e:h.get? a=some (EO tp l)):RowI tp h a l 0:=by
  cases tp with
  | true=>exact⟨_,e,rfl,rfl⟩
  | false=>exact⟨_,e,rfl,rfl⟩
section
variable{prog:Program}{w:World}{A:Around}{E:Value->Shared->Prop}{s:Shared}
theorem Q7{t1 t2:Bool}{l1 l2:Addr}{xs ys:Array Value}{Q:Value->Shared->Prop}(q1:RowL t1 s.heap l1 xs)(q2:RowL t2 s.heap l2 ys)
    (h:∀ g,ZAt t1 t2 g (s.heap.objs.size + 4) (s.heap.objs.size + 2) (s.heap.objs.size + 3) s.heap.objs.size (s.heap.objs.size + 1) l1 l2 .none 0 0->(∀ c o,s.heap.get? c=some o->g.get? c=some o)->Q (.ref (s.heap.objs.size + 4)) { s with heap:=g }) :
    wpAny (model prog w) A (call (.type "zip") [.ref l1,.ref l2]) Q E s:=by
  refine callType_new F.called_zip (by decide) (F.typeCall_zip_2 _ _) (F.newCall_zip_2 _ _) (λ obj=>F.args_object_init_3 obj _ _) F.entry_zip_new (Q6 t1 t2 l1 l2 xs ys) ⟨q1,q2,?_⟩
  have n1:(zh1 t1 s.heap l1).objs.size=s.heap.objs.size + 1:=Heap.size_push ..
  have n2:(zh2 t1 t2 s.heap l1 l2).objs.size=s.heap.objs.size + 2:=by rw[Heap.size_push,n1]
  have n3:(zh3 t1 t2 s.heap l1 l2).objs.size=s.heap.objs.size + 3:=by rw[Heap.size_push,n2]
  have n4:(zh4 t1 t2 s.heap l1 l2).objs.size=s.heap.objs.size + 4:=by rw[Heap.size_push,n3]
  have up:∀ {g:Heap} {c:Addr} {o x:Obj},g.get? c=some o->(g.push x).get? c=some o:=λ e=>Heap.get?_push_of_some _ e
  have e5:(zh5 t1 t2 s.heap l1 l2).get? (zh4 t1 t2 s.heap l1 l2).objs.size=some _:=Heap.get?_push_size _ rfl
  have e4:(zh5 t1 t2 s.heap l1 l2).get? (zh3 t1 t2 s.heap l1 l2).objs.size=some _:=up (Heap.get?_push_size _ rfl)
  have e3:(zh5 t1 t2 s.heap l1 l2).get? (zh2 t1 t2 s.heap l1 l2).objs.size=some _:=up (up (Heap.get?_push_size _ rfl))
  have e2:(zh5 t1 t2 s.heap l1 l2).get? (zh1 t1 s.heap l1).objs.size=some (EO t2 l2):=up (up (up (Heap.get?_push_size _ (by cases t2 <;> rfl))))
  have e1:(zh5 t1 t2 s.heap l1 l2).get? s.heap.objs.size=some (EO t1 l1):=up (up (up (up (Heap.get?_push_size _ (by cases t1 <;> rfl)))))
  show _/\_
  rw[n2,n3,n4]at e5
  rw[n1,n2]at e3
  rw[n3]at e4
  rw[n1]at e2
  rw[n4]
  exact⟨⟨_,e5,rfl⟩,h _ ⟨e5,e3,⟨_,_,e4⟩,Mq e1,Mq e2⟩ λ c o x=>up (up (up (up (up x))))⟩
end
noncomputable def O0(K:PySem.W.Frag)(t1 t2:Bool)(ta:TA):TI:=λ σ H R=>ta σ H λ vs H1=>∃ a b xs ys,vs=[.ref a,.ref b]/\SqS K t1 H1 a xs/\SqS K t2 H1 b ys/\R (Itz K t1 t2 a b) H1
section
variable{X:Cx}
theorem Vm{t1 t2:Bool}{a b:Expr}{ta:TA}{elts:List Expr}{kk:Nat}{tpos p pos:Pos}(hg:Gl X "zip")(hm:X.mg "zip"=none)(ha:PA X [a,b] ta)(hs:starEach [a,b] X.env=[(false,eval a X.env),(false,eval b X.env)]:=by rfl)(hs2:starEach [b] X.env=[(false,eval b X.env)]:=by rfl) :
    PI X (.Tuple elts kk tpos) (.Call (.Name "zip" p) [a,b] [] pos) (O0 X.K t1 t2 ta):=by
  intro pins s σ H R I h
  refine Call_ (G5 I hg hm boot_zip (PyProof.Rows.callWith_type1 (thn (ha pos pins s σ H _ I h) λ us s1 ⟨vs,H1,I1,r1,q1⟩=>?_) (by rw[hs,hs2]) (by rw[hs2];rfl)))
  obtain⟨l1,l2,xs,ys,e,c1,c2,q⟩:=q1
  subst e
  obtain⟨u,v,rfl,ru,rv⟩:=Iq r1
  cases ru
  cases rv
  obtain⟨ix,rx,px,zx⟩:=I1.row c1
  obtain⟨iy,ry,py,zy⟩:=I1.row c2
  refine Q7 px py λ g Z kp=>wpAny_pyIter_zip Z.z ?_
  refine⟨_,_,_,_,H1,rfl,I1.kept (t':=s1.toks) kp,QD (Ss px.lt py.lt),Z,λ c hc=>?_,q⟩
  simp only[List.mem_cons,List.not_mem_nil,or_false]at hc
  have le:s1.heap.objs.size <= c:=by
    rcases hc with rfl|rfl|rfl|rfl|rfl
    . exact Nat.le_add_right _ _
    . exact Nat.le_add_right _ _
    . exact Nat.le_add_right _ _
    . exact Nat.le_refl _
    . exact Nat.le_add_right _ _
  exact I1.fpOk le (I1.hok.fresh le)
theorem U0(K:PySem.W.Frag){t1 t2:Bool}{a b:Expr}{ta:TA}{elts:List Expr}{kk:Nat}{tpos p pos:Pos}(hg:Gl X "zip")(hm:X.mg "zip"=none)(ha:PA X [a,b] ta)(hK:X.K=K:=by rfl)(hs:starEach [a,b] X.env=[(false,eval a X.env),(false,eval b X.env)]:=by rfl)(hs2:starEach [b] X.env=[(false,eval b X.env)]:=by rfl) :
    PI X (.Tuple elts kk tpos) (.Call (.Name "zip" p) [a,b] [] pos) (O0 K t1 t2 ta):=by subst hK;exact Vm hg hm ha hs hs2
end
noncomputable def Xu(K:PySem.W.Frag)(ρ:List Addr)(H:Hp)(tp:Bool)(a:Addr)(ds:List D)(g:Gd):Prop:=∀ (ρ2:List Addr) (H2:Hp) (hd2:Hd),Ext ρ H ρ2 H2->RH K ρ2 H2 hd2->GOk hd2 g->∃ xs,SqS K tp H2 a xs/\RDs K ρ2 H2 ds xs
noncomputable def RRw(K:PySem.W.Frag)(tp:Bool)(t:TE)(m:MI):Prop:=∀ (ρ:List Addr) (σ:St) (H:Hp) (hd:Hd) (ls:Ls) (Q:VK) (d:List D) (g:Gd) (hd':Hd),RH K ρ H hd->RL K ρ H ls σ->m ls hd=some ((d,g),hd') ->
  (∀ ρ' H' a,Ext ρ H ρ' H'->RH K ρ' H' hd'->GOk hd' g->Xu K ρ' H' tp a d g->Q (.ref a) H')->t σ H Q
structure QR(K:PySem.W.Frag)(tp:Bool)(X:Cx)(e:Expr)(t:TE)(m:MI):Prop where
  p:PE X e t
  r:RRw K tp t m
section
variable{K:PySem.W.Frag}{ρ ρ':List Addr}{H H':Hp}{hd hd':Hd}
theorem Uz{t:TE}{m:ME}(h:RE K t m):RRw K true t (BS m):=by
  intro ρ σ H hd ls Q d g hd' hR hL hm hQ
  obtain⟨⟨d1,h1⟩,e1,hm⟩:=Option.bind_eq_some_iff.mp hm
  obtain⟨ds,e2,e3⟩:=Option.map_eq_some_iff.mp hm
  cases e3
  refine h ρ σ H hd ls _ d1 _ hR hL e1 λ ρ1 H1 v x1 R1 r1=>?_
  obtain⟨a,xs,rfl,q,r⟩:=r1.tup e2
  exact hQ ρ1 H1 a x1 R1 (Ab _) λ ρ2 H2 hd2 x2 R2 _=>⟨xs,(x2.grow R1).sq q,r.ext R1 x2⟩
theorem T9{t:TE}{m:ME}(h:RE K t m):RRw K false t (Ca m):=by
  intro ρ σ H hd ls Q d g hd' hR hL hm hQ
  obtain⟨⟨d1,h1⟩,e1,hm⟩:=Option.bind_eq_some_iff.mp hm
  dsimp only at hm
  split at hm
  . next n=>
    split at hm
    . next ds q=>
      cases hm
      refine h ρ σ H hd ls _ _ _ hR hL e1 λ ρ1 H1 v x1 R1 r1=>?_
      simp only[RD]at r1
      obtain⟨a,hn,rfl⟩:=r1
      refine hQ ρ1 H1 a x1 R1 (λ p z=>by simp at z;subst z;exact q) λ ρ2 H2 hd2 x2 R2 G2=>?_
      have hn2:ρ2[n]? = some a:=by
        obtain⟨r,rfl,_⟩:=x2.pre
        rw[List.getElem?_append_left (List.getElem?_eq_some_iff.mp hn).1];exact hn
      obtain⟨ys,e4,e5⟩:=R2.lst hn2 (G2 (n,d) (by simp))
      exact⟨ys,SqL.of e4,e5⟩
    . cases hm
  . next ns=>
    cases hm
    refine h ρ σ H hd ls _ _ _ hR hL e1 λ ρ1 H1 v x1 R1 r1=>?_
    simp only[RD]at r1
    obtain⟨a,rfl,q⟩:=r1
    exact hQ ρ1 H1 a x1 R1 (Ab _) λ ρ2 H2 hd2 x2 R2 _=>⟨_,(q.grow (x2.grow R1)).sq,G7⟩
  . cases hm
theorem V0{t:TE}{m:MA}(h:RN K t m):RRw K false t (Lx m):=by
  intro ρ σ H hd ls Q d g hd' hR hL hm hQ
  obtain⟨⟨d1,h1⟩,e1,e3⟩:=Option.map_eq_some_iff.mp hm
  cases e3
  refine h ρ σ H hd ls _ _ _ hR hL e1 λ ρ1 H1 a xs x1 R1 na oa ea r1=>?_
  exact hQ ρ1 H1 a x1 R1 (Ab _) λ ρ2 H2 hd2 x2 R2 _=>⟨xs,SqL.of (x2.keep a _ ea oa nt),r1.ext R1 x2⟩
open Classical in
noncomputable def HQ(ma mb:MI):MI:=λ ls hd=>(ma ls hd).bind λ p=>(mb ls p.2).bind λ q=>if GOk q.2 p.1.2 then some ((List.zipWith (λ x y=>Ai [x,y]) p.1.1 q.1.1,p.1.2 ++ q.1.2),q.2)else none
theorem VF{t1 t2:Bool}{ta tb:TE}{ma mb:MI}(ha:RRw K t1 ta ma)(hb:RRw K t2 tb mb):RIt K (O0 K t1 t2 (Bp ta (Bp tb Ck))) (HQ ma mb):=by
  intro ρ σ H hd ls Q d g hd' hR hL hm hQ
  obtain⟨⟨⟨d1,g1⟩,h1⟩,e1,hm⟩:=Option.bind_eq_some_iff.mp hm
  obtain⟨⟨⟨d2,g2⟩,h2⟩,e2,hm⟩:=Option.bind_eq_some_iff.mp hm
  dsimp only at hm
  split at hm
  . next gk=>
    cases hm
    refine ha ρ σ H hd ls _ d1 g1 h1 hR hL e1 λ ρ1 H1 a x1 R1 G1 S1=>?_
    refine hb ρ1 σ H1 h1 ls _ d2 g2 _ R1 (hL.ext hR x1) e2 λ ρ2 H2 b x2 R2 G2 S2=>?_
    obtain⟨xs,c1,r1⟩:=S1 ρ2 H2 _ x2 R2 gk
    obtain⟨ys,c2,r2⟩:=S2 ρ2 H2 _ .refl R2 G2
    refine⟨a,b,xs,ys,rfl,c1,c2,hQ ρ2 H2 _ (x1.trans R1 x2) R2 (λ p hp=>(List.mem_append.mp hp).elim (gk p) (G2 p)) ?_⟩
    intro ρ3 H3 hd3 x3 R3 G3 i
    obtain⟨xs,c1,r1⟩:=S1 ρ3 H3 _ (x2.trans R2 x3) R3 λ p hp=>G3 p (List.mem_append_left _ hp)
    obtain⟨ys,c2,r2⟩:=S2 ρ3 H3 _ x3 R3 λ p hp=>G3 p (List.mem_append_right _ hp)
    have l1:=r1.len;have l2:=r2.len
    refine⟨λ hi=>?_,λ hi=>⟨xs,ys,c1,c2,?_⟩⟩
    . simp only[List.length_zipWith]at hi
      have i1:d1[i]? = some (d1[i]'(by omega)):=List.getElem?_eq_getElem _
      have i2:d2[i]? = some (d2[i]'(by omega)):=List.getElem?_eq_getElem _
      obtain⟨x,x4,x5⟩:=r1.get i1
      obtain⟨y,y4,y5⟩:=r2.get i2
      refine⟨⟨xs,ys,x,y,c1,c2,x4,y4⟩,λ z H4 hz=>?_⟩
      obtain⟨p,u,v,fp,rfl,rfl,hu,hv⟩:=hz
      have eu:=hu xs c1;rw[x4]at eu;cases eu
      have ev:=hv ys c2;rw[y4]at ev;cases ev
      obtain⟨R4,x6⟩:=R3.hid (ho:=.tup [x,y]) fp
      refine⟨ρ3,Ai [d1[i]'(by omega),d2[i]'(by omega)],x6,rfl,R4,?_,Cm (SqT.of Am) (.cons (x5.ext R3 x6) (.cons (y5.ext R3 x6) .nil))⟩
      simp[List.getElem?_zipWith,i1,i2]
    . simp only[List.length_zipWith]at hi
      omega
  . cases hm
end
section
variable(K:PySem.W.Frag){X:Cx}{a b e:Expr}{ta tb te:TE}{me:ME}{m:MA}
theorem Lh(h:QE K X e te me):QR K true X e te (BS me):=⟨h.p,Uz h.r⟩
theorem Fu(h:QE K X e te me):QR K false X e te (Ca me):=⟨h.p,T9 h.r⟩
theorem Va(h:QN K X e te m):QR K false X e te (Lx m):=⟨h.p,V0 h.r⟩
theorem Ou{t1 t2:Bool}{ma mb:MI}{elts:List Expr}{kk:Nat}{tpos p pos:Pos}(hm:X.mg "zip"=none)(ha:QR K t1 X a ta ma)(hb:QR K t2 X b tb mb)(hg:Gl X "zip":=by rfl)(hK:X.K=K:=by rfl)(hs:starEach [a,b] X.env=[(false,eval a X.env),(false,eval b X.env)]:=by rfl)(hs2:starEach [b] X.env=[(false,eval b X.env)]:=by rfl) :
    QI K X (.Tuple elts kk tpos) (.Call (.Name "zip" p) [a,b] [] pos) (O0 K t1 t2 (Bp ta (Bp tb Ck))) (HQ ma mb):=⟨U0 K hg hm (Cf ha.p (Cf hb.p Di hs2) (by rw[hs,hs2])) hK hs hs2,VF ha.r hb.r⟩
end
section
variable{K:PySem.W.Frag}
noncomputable def Lw(ml:MA)(mb:ME):ME:=λ ls hd=>(ml ls hd).bind λ p=>(mb ls p.2).bind λ q=>match q.1 with
  | .im (.int i)=>(atI p.1 i).map (·,q.2)
  | _=>none
theorem VQ{ta tb:TE}{ml:MA}{mb:ME}(ha:RN K ta ml)(hb:RE K tb mb):RE K (tOp (Kh K) ta tb) (Lw ml mb):=by
  intro ρ σ H hd ls Q d hd' hR hL hm hQ
  obtain⟨⟨d1,h1⟩,e1,hm⟩:=Option.bind_eq_some_iff.mp hm
  obtain⟨⟨d2,h2⟩,e2,hm⟩:=Option.bind_eq_some_iff.mp hm
  dsimp only at hm
  split at hm
  . obtain⟨w,e3,e4⟩:=Option.map_eq_some_iff.mp hm
    cases e4
    refine ha ρ σ H hd ls _ d1 h1 hR hL e1 λ ρ1 H1 a xs x1 R1 na oa ea r1=>?_
    refine hb ρ1 σ H1 h1 ls _ _ _ R1 (hL.ext hR x1) e2 λ ρ2 H2 v2 x2 R2 r2=>?_
    simp only[RD,RI]at r2
    subst r2
    have r1':=r1.ext R1 x2
    obtain⟨j,j1,j2⟩:=NK r1'.len e3
    obtain⟨x,y1,y2⟩:=r1'.get j1
    exact .inl ⟨a,xs,_,x,rfl,rfl,SqL.of (x2.keep a _ ea oa nt),j2 x y1,hQ ρ2 H2 x (x1.trans R1 x2) R2 y2⟩
  . cases hm
noncomputable def MB(neg:Bool)(x y:PyData)(hd:Hd):Option (D × Hd):=if x.canLay0=true/\y.canLay0=true/\min x.depth y.depth <= 60 then some (.im (.bl (if neg then !PyData.eqv x y else PyData.eqv x y)),hd)else none
noncomputable def GW(neg:Bool)(ma:ME)(ml:MA):ME:=λ ls hd=>(ma ls hd).bind λ p=>(ml ls p.2).bind λ q=>(pyD q.2 p.1).bind λ x=>(BZ q.1).bind λ is=>MB neg x (.list (I.pys is)) q.2
noncomputable def rEN(K:PySem.W.Frag)(neg:Bool):R2:=λ x y H Q=>∃ d e,Rep K H d x/\Rep K H e y/\d.canLay0=true/\e.canLay0=true/\min d.depth e.depth <= 60/\Q (.bl (if neg then !PyData.eqv d e else PyData.eqv d e)) H
theorem TZ{ρ:List Addr}{H:Hp}{a:Addr}{xs:List V}{ds:List D}{is:List I}(ea:H a=some (.lst xs))(r:RDs K ρ H ds xs)(e:BZ ds=some is):Rep K H (.list (I.pys is)) (.ref a):=by
  rw[Gj e]at r
  simp only[Rep]
  exact⟨a,xs,rfl,SqL.of ea,r.is.rep⟩
theorem Td{neg:Bool}{ta tb:TE}{ma:ME}{ml:MA}(ha:RE K ta ma)(hb:RN K tb ml):RE K (tOp (rEN K neg) ta tb) (GW neg ma ml):=by
  intro ρ σ H hd ls Q d hd' hR hL hm hQ
  obtain⟨⟨d1,h1⟩,e1,hm⟩:=Option.bind_eq_some_iff.mp hm
  obtain⟨⟨d2,h2⟩,e2,hm⟩:=Option.bind_eq_some_iff.mp hm
  obtain⟨x,e3,hm⟩:=Option.bind_eq_some_iff.mp hm
  obtain⟨is,e4,hm⟩:=Option.bind_eq_some_iff.mp hm
  unfold MB at hm
  split at hm
  . next c=>
    cases hm
    refine ha ρ σ H hd ls _ d1 h1 hR hL e1 λ ρ1 H1 v x1 R1 r1=>?_
    refine hb ρ1 σ H1 h1 ls _ d2 _ R1 (hL.ext hR x1) e2 λ ρ2 H2 a xs x2 R2 na oa ea r2=>?_
    exact⟨_,_,Fv R2 (r1.ext R1 x2) e3,TZ ea r2 e4,c.1,c.2.1,c.2.2,hQ ρ2 H2 _ (x1.trans R1 x2) R2 (by simp[RD,RI])⟩
  . cases hm
end
theorem W0(K:PySem.W.Frag){X:Cx}(hu:X.A.units + 64 < cLine)(hK:X.K=K:=by rfl):OpR X (compareOp .NotEq) (rEN K true):=FB K hu hK
section
variable(K:PySem.W.Frag){X:Cx}{a b e:Expr}{ta tb te:TE}{ma mb me:ME}{m mk:MA}{pos:Pos}{op:CmpOp}{neg:Bool}
theorem Vc(ha:QN K X a ta m)(hb:QE K X b tb mb)(hs:K7 b:=by exact λ _ _=>rfl)(hK:X.K=K:=by rfl):QE K X (.Subscript a b pos) (tOp (Kh K) ta tb) (Lw m mb):=⟨SX ((M3 K hK).or (N9 K hK)) ha.p hb.p hs,VQ ha.r hb.r⟩
theorem Ti(ho:OpR X (compareOp op) (rEN K neg))(ha:QE K X a ta ma)(hb:QN K X b tb m)(hm:behindInMarks op b=false:=by first|exact Lp _|rfl):QT K X (.Compare a [op] [b] pos) (Kd (tOp (rEN K neg) ta tb)) (Ak (GW neg ma m)):=⟨N1 ho ha.p hb.p hm,Jj (Td ha.r hb.r)⟩
end
end L2
namespace L2
open PySem PySem.Spec PyProof.Rows
noncomputable def DB(lo:Int):Nat->List V
  | 0=>[]
  | n + 1=>.int lo :: DB (lo + 1) n
theorem Nk(lo:Int)(n:Nat):(DB lo n).length=n:=by
  induction n generalizing lo with
  | zero=>rfl
  | succ n ih=>simp[DB,ih]
theorem Lc{K:PySem.W.Frag}{ρ:List Addr}{H:Hp}(lo:Int)(n:Nat):RDs K ρ H (Ao lo n) (DB lo n):=by
  induction n generalizing lo with
  | zero=>simp[Ao,DB,RDs]
  | succ n ih=>exact .cons (by simp[RD,RI]) (ih _)
theorem J1{lo:Int}:∀ {n:Nat} {us:List Value},us.length=n->(∀ (j:Nat) (v:Value),us[j]? = some v->∃ t,v=.int (lo + j * 1) t)->Vals (DB lo n) us
  | 0,us,h,_=>by
    have:us=[]:=List.length_eq_zero_iff.mp h
    subst this;exact .nil
  | n + 1,[],h,_=>by simp at h
  | n + 1,u :: us,h,k=>by
    obtain⟨t,e⟩:=k 0 u rfl
    refine .cons ⟨t,by rw[e];simp⟩ (J1 (by simpa using h) λ j v q=>?_)
    obtain⟨t',e'⟩:=k (j + 1) v (by simpa using q)
    exact⟨t',by rw[e'];congr 1;push_cast;omega⟩
section
variable{prog:Program}{w:World}{A:Around}{E:Value->Shared->Prop}{s:Shared}
end
noncomputable def Mv:List V->Hp->VK->Prop:=λ xs H Q=>∃ j:Int,xs=[.int j]/\∀ p,H p=none->Q (.ref p) (upd H p (.rng 0 j))
noncomputable def Mu:List V->Hp->VK->Prop:=λ xs H Q=>∃ i j:Int,xs=[.int i,.int j]/\∀ p,H p=none->Q (.ref p) (upd H p (.rng i j))
noncomputable def Lf:List V->Hp->VK->Prop:=λ xs H Q=>∃ a lo hi,xs=[.ref a]/\H a=some (.rng lo hi)/\(-(2 ^ 62) <= lo/\lo < 2 ^ 62/\-(2 ^ 62) <= hi/\hi < 2 ^ 62)/\(hi - lo).toNat <= 2 ^ 24/\∀ p,H p=none->Q (.ref p) (upd H p (.lst (DB lo (hi - lo).toNat)))
section
variable{X:Cx}
theorem call_rng1:CallR X (.type "range") Mv:=by
  intro pins s σ H xs us Q I r h
  obtain⟨j,rfl,q⟩:=h
  obtain⟨u,rfl,t,rfl⟩:=Cc r
  exact call_range_1 ⟨.ref s.heap.objs.size,_,I.laid (a:=s.heap.objs.size) (o:=.rng 0 j) (λ b o e=>Heap.get?_push_of_some _ e) (Nat.le_refl _) ⟨_,_,_,Heap.get?_push_size _ rfl⟩,rfl,q _ (I.hok.fresh (Nat.le_refl _))⟩
theorem Ps:CallR X (.type "range") Mu:=by
  intro pins s σ H xs us Q I r h
  obtain⟨i,j,rfl,q⟩:=h
  obtain⟨u,v,rfl,⟨t,rfl⟩,⟨t',rfl⟩⟩:=Iq r
  exact call_range_2 ⟨.ref s.heap.objs.size,_,I.laid (a:=s.heap.objs.size) (o:=.rng i j) (λ b o e=>Heap.get?_push_of_some _ e) (Nat.le_refl _) ⟨_,_,_,Heap.get?_push_size _ rfl⟩,rfl,q _ (I.hok.fresh (Nat.le_refl _))⟩
theorem XC{lo hi:Int}:Builtin.Range.rangeSize lo hi 1=((hi - lo).toNat:Nat):=by rw[rangeSize_one];split <;> omega
theorem Ny{lo:Int}{n:Nat}{acc:Array Value}(it:ItemsOf (λ i v=>∃ t,v=.int (lo + i * 1) t) acc n):Vals (DB lo n) acc.toList:=J1 (by simpa using it.1) λ j v q=>it.2 j v (by simpa using q)
theorem OJ(hc:X.calm=true):CallR X (.type "list") Lf:=by
  intro pins s σ H xs us Q I r h
  obtain⟨a,lo,hi,rfl,ha,⟨b1,b2,b3,b4⟩,hz,q⟩:=h
  obtain⟨u,rfl,ru⟩:=Cc r
  cases ru
  obtain⟨t,u,v,hr⟩:∃ t u v,s.heap.get? a=some { cls:=.type "range",data:=.fields #[.int lo t,.int hi u,.int 1 v] }:=I.hok a _ ha
  refine call_list_range (I.ok.hd hc) hr (small_one b1 b2 b3 b4) XC hz λ g tk acc c' kp e it=>?_
  exact⟨.ref s.heap.objs.size,_,I.laid (t':=tk) (o:=.lst _) kp (Nat.le_refl _) ⟨by rw[Nk,sizeLine_eq];omega,acc.toList,c',Ny it,by simpa using e⟩,rfl,q _ (I.hok.fresh (Nat.le_refl _))⟩
end
section
variable{K:PySem.W.Frag}
open Classical in
noncomputable def Ia(m:MA):MA:=λ ls hd=>(m ls hd).bind λ p=>match p.1 with
  | [.im (.int j)]=>if Kf j then some (Ao 0 j.toNat,p.2)else none
  | [.im (.int i),.im (.int j)]=>if SK i j then some (Ao i (j - i).toNat,p.2)else none
  | _=>none
noncomputable def On:List V->Hp->VK->Prop:=λ xs H Q=>Mv xs H Q ∨ Mu xs H Q
theorem Qq{t:TA}{m:MA}(h:RA K t m):RN K (tCB Lf (Bp (tCB On t) Ck)) (Ia m):=by
  intro ρ σ H hd ls Q d hd' hR hL hm hQ
  obtain⟨⟨d1,h1⟩,e1,hm⟩:=Option.bind_eq_some_iff.mp hm
  dsimp only at hm
  refine h ρ σ H hd ls _ d1 h1 hR hL e1 λ ρ1 H1 v x1 R1 r1=>?_
  split at hm
  . next j=>
    split at hm
    . next c=>
      have c:j < 2 ^ 24/\-(2 ^ 62) <= j:=c
      cases hm
      simp only[RDs,RD,RI]at r1
      obtain⟨x,r,rfl,rfl,rfl⟩:=r1
      refine .inl ⟨j,rfl,λ p hp=>⟨p,0,j,rfl,Am,⟨by decide,by decide,c.2,by omega⟩,by omega,λ l hl=>?_⟩⟩
      obtain⟨R2,x2⟩:=R1.hid (ho:=.rng 0 j) hp
      obtain⟨R3,x3⟩:=R2.hid (ho:=.lst (DB 0 (j - 0).toNat)) hl
      refine hQ ρ1 _ l (DB 0 (j - 0).toNat) ((x1.trans R1 x2).trans R2 x3) R3 ((x1.trans R1 x2).none hR hl R2) (R2.out hl) Am ?_
      rw[Int.sub_zero];exact Lc 0 _
    . cases hm
  . next i j=>
    split at hm
    . next c=>
      cases hm
      simp only[RDs,RD,RI]at r1
      obtain⟨x,r,rfl,rfl,y,r2,rfl,rfl,rfl⟩:=r1
      refine .inr ⟨i,j,rfl,λ p hp=>⟨p,i,j,rfl,Am,⟨c.1.1,c.1.2,c.2.1.1,c.2.1.2⟩,c.2.2,λ l hl=>?_⟩⟩
      obtain⟨R2,x2⟩:=R1.hid (ho:=.rng i j) hp
      obtain⟨R3,x3⟩:=R2.hid (ho:=.lst (DB i (j - i).toNat)) hl
      exact hQ ρ1 _ l (DB i (j - i).toNat) ((x1.trans R1 x2).trans R2 x3) R3 ((x1.trans R1 x2).none hR hl R2) (R2.out hl) Am (Lc i _)
    . cases hm
  . cases hm
noncomputable def XX(m:MA):ME:=λ ls hd=>(Ia m ls hd).bind λ p=>some (Ai p.1,p.2)
theorem Jp:∀ {xs ys:List Int},xs.Perm ys->xs.Pairwise (· <= ·)->ys.Pairwise (· <= ·)->xs=ys:=λ {xs ys} p a b=>
  p.eq_of_pairwise (le:=(· <= ·)) (λ _ _ _ _ h1 h2=>Int.le_antisymm h1 h2) a b
noncomputable def Db(xs:List Int):List Int:=xs.mergeSort (λ a b=>decide (a <= b))
theorem Iy(xs:List Int):(Db xs).Perm xs:=List.mergeSort_perm ..
theorem LF(xs:List Int):(Db xs).Pairwise (· <= ·):=by
  have:=List.pairwise_mergeSort (le:=λ a b:Int=>decide (a <= b)) (by intro a b c h1 h2;simp at *;omega) (by intro a b;simp;omega) xs
  exact this.imp (by simp)
noncomputable def FC(m:MI):MA:=λ ls hd=>(m ls hd).bind λ p=>(BY p.1.1).bind λ ns=>if ns.length < 64 then some ((Db ns).map λ i=>.im (.int i),p.2)else none
end
section
variable(K:PySem.W.Frag){X:Cx}{a b e:Expr}{ta tb te:TE}{me:ME}{m:MA}{t:TA}{p p2 pos pos2:Pos}{es:List Expr}
theorem RP(hm:X.mg "list"=none)(hm2:X.mg "range"=none)(ha:QA K X (a :: es) t m)(hc:X.calm=true:=by rfl)(hg:Gl X "list":=by rfl)(hg2:Gl X "range":=by rfl)(he2:starEach (a :: es) X.env=(false,eval a X.env) :: starEach es X.env:=by rfl)(hpl:(backTo pos2 (starEach es X.env)).any (·.1)=false:=by rfl)
    (he:starEach [.Call (.Name "range" p2) (a :: es) [] pos2] X.env=[(false,eval (.Call (.Name "range" p2) (a :: es) [] pos2) X.env)]:=by rfl) :
    QN K X (.Call (.Name "list" p) [.Call (.Name "range" p2) (a :: es) [] pos2] [] pos) (tCB Lf (Bp (tCB On t) Ck)) (Ia m):=
  ⟨EX (OJ hc) hg hm NJ (Cf (EX (call_rng1.or Ps) hg2 hm2 boot_range ha.p (by decide) (by decide) he2 hpl) Di he) (by decide) (by decide) he rfl,Qq ha.r⟩
end
end L2
namespace L2
structure BltA(mg:PySem.Str->Option PySem.Value):Prop where
  list:mg "list"=none
  tuple:mg "tuple"=none
  len:mg "len"=none
  range:mg "range"=none
  repr:mg "repr"=none
  sum:mg "sum"=none
  min:mg "min"=none
  max:mg "max"=none
  abs:mg "abs"=none
  all:mg "all"=none
  any:mg "any"=none
  sorted:mg "sorted"=none
  zip:mg "zip"=none
  isinstance:mg "isinstance"=none
  int:mg "int"=none
  bool:mg "bool"=none
  str:mg "str"=none
  set:mg "set"=none
  enumerate:mg "enumerate"=none
  reversed:mg "reversed"=none
  dict:mg "dict"=none
end L2
namespace L2
open PySem PySem.Spec PyProof.Rows
section
variable{ls:Ls}{hd:Hd}{a b c:MS}{ma mb mc:ME}{ta tb:MT}{m m1 m2:MA}{n:MG}{ns:MGs}{d e:D}
@[simp] theorem Hf:AE a b ls hd=(a ls hd).bind λ p=>match p.1 with
  | .nx ls1=>b ls1 p.2
  | f=>some (f,p.2):=rfl
@[simp] theorem UV:B5 ls hd=some (.nx ls,hd):=rfl
@[simp] theorem Yb:Cr ma ls hd=(ma ls hd).bind λ p=>some (.nx ls,p.2):=rfl
@[simp] theorem Pb:AZ ma ls hd=(ma ls hd).bind λ p=>some (.rt p.1,p.2):=rfl
@[simp] theorem YT:XY ls hd=some (.rt (.im .non),hd):=rfl
@[simp] theorem YJ:W9 ls hd=some (.bk ls,hd):=rfl
@[simp] theorem Yf:Xh ls hd=some (.ct ls,hd):=rfl
@[simp] theorem Wg:BM ta a b ls hd=(ta ls hd).bind λ p=>if p.1=true then a ls p.2 else b ls p.2:=rfl
@[simp] theorem GD:FS ma n ls hd=(ma ls hd).bind λ p=>(n p.1 ls p.2).map λ ls'=>(.nx ls',p.2):=rfl
@[simp] theorem IA(i:Nat):AG i d ls hd=some (ls.set i (some d)):=rfl
@[simp] theorem YV(k:Nat):Bh k ns d ls hd=(Ad d).bind λ ds=>if ds.length=k then ns ds ls hd else none:=rfl
@[simp] theorem YG(d:D)(ds:List D):AO n ns (d :: ds) ls hd=(n d ls hd).bind λ ls1=>ns ds ls1 hd:=rfl
@[simp] theorem YX:Bi [] ls hd=some ls:=rfl
@[simp] theorem WZ(ix:List Nat):FR ix m ls hd=(m ls hd).bind λ p=>if p.1.length=ix.length then some (.nx ((ix.zip p.1).foldl (λ l q=>l.set q.1 (some q.2)) ls),p.2)else none:=rfl
@[simp] theorem YU(i j k:Nat):XZ i j k m ls hd=FR [k,j,i] (λ ls hd=>(m ls hd).map λ p=>(p.1.reverse,p.2)) ls hd:=rfl
@[simp] theorem GC(i:Nat):A0 i ls hd=match ls[i]? with
  | some (some d)=>some (d,hd)
  | _=>none:=rfl
@[simp] theorem Wi(i:I):mC i ls hd=some (.im i,hd):=rfl
@[simp] theorem Sg(f:D->D->Hd->Option (D × Hd)):mOp f ma mb ls hd=(ma ls hd).bind λ p=>(mb ls p.2).bind λ q=>f p.1 q.1 q.2:=rfl
@[simp] theorem Yw:Jw ta tb ls hd=(ta ls hd).bind λ p=>if p.1=true then tb ls p.2 else some (false,p.2):=rfl
@[simp] theorem ZI:mOr ta tb ls hd=(ta ls hd).bind λ p=>if p.1=true then some (true,p.2)else tb ls p.2:=rfl
@[simp] theorem Yt:Jt ta ls hd=(ta ls hd).bind λ p=>some (!p.1,p.2):=rfl
@[simp] theorem WW:GU ma ls hd=(ma ls hd).bind λ p=>(Eh p.2 p.1).map (·,p.2):=rfl
@[simp] theorem NE:Ak ma ls hd=(ma ls hd).bind λ p=>match p.1 with
  | .im (.bl b)=>some (b,p.2)
  | _=>none:=rfl
@[simp] theorem ZJ:mIf ta ma mb ls hd=(ta ls hd).bind λ p=>if p.1=true then ma ls p.2 else mb ls p.2:=rfl
@[simp] theorem Yg:Xi ma mb ls hd=(Ak ma ls hd).bind λ p=>if p.1=true then mb ls p.2 else some (.im (.bl false),p.2):=rfl
@[simp] theorem Ys:YD ma mb ls hd=(Ak ma ls hd).bind λ p=>if p.1=true then some (.im (.bl true),p.2)else mb ls p.2:=rfl
@[simp] theorem YW:Xa ma ls hd=(Ak ma ls hd).bind λ p=>some (.im (.bl (!p.1)),p.2):=rfl
@[simp] theorem Pd:AC ls hd=some ([],hd):=rfl
@[simp] theorem UZ:A5 ma m ls hd=(ma ls hd).bind λ p=>(m ls p.2).bind λ q=>some (p.1 :: q.1,q.2):=rfl
open Classical in
@[simp] theorem Yq:CI m ls hd=(m ls hd).bind λ p=>if C0 p.1.length then some (Ai p.1,p.2)else none:=rfl
open Classical in
@[simp] theorem Wb:DV m ls hd=(m ls hd).bind λ p=>if C0 p.1.length then some (p.1,p.2)else none:=rfl
@[simp] theorem Pe:BF m ls hd=(m ls hd).bind λ p=>some (.mu p.2.length,p.2 ++ [.lst p.1]):=rfl
@[simp] theorem Wa:HW ma ls hd=(ma ls hd).bind λ p=>match p.1 with
  | .im (.int i)=>some (.im (.int (-i)),p.2)
  | _=>none:=rfl
@[simp] theorem Yu(neg:Bool):Ly neg ma ls hd=(ma ls hd).bind λ p=>some (.im (.bl (match p.1 with
  | .im .non=>!neg
  | _=>neg)),p.2):=rfl
@[simp] theorem ZK(g:Int->Int->Option I)(i j:Int):fI g (.im (.int i)) (.im (.int j)) hd=(g i j).map (.im ·,hd):=rfl
@[simp] theorem UY(f g:D->D->Hd->Option (D × Hd)):Gh f g d e hd=match f d e hd with
  | some z=>some z
  | none=>g d e hd:=rfl
@[simp] theorem Yv(neg:Bool)(i j:Int):Fh neg (.im (.int i)) (.im (.int j)) hd=some (.im (.bl (if neg then !decide (i=j)else decide (i=j))),hd):=by simp[Fh,scI,LL]
@[simp] theorem Wh(neg:Bool)(i j:Str):Fh neg (.im (.str i)) (.im (.str j)) hd=some (.im (.bl (if neg then !decide (i=j)else decide (i=j))),hd):=by simp[Fh,scI,LL]
@[simp] theorem Sh(i:Int):gIx d (.im (.int i)) hd=(B2 hd d).bind λ ds=>(atI ds i).map (·,hd):=rfl
@[simp] theorem Ye:Xm d e hd=(K0 hd d).bind λ kvs=>(Ha e).bind λ k=>(Uq kvs k).map (·,hd):=rfl
@[simp] theorem Xq(f:List D->Hd->Option (D × Hd)):mCB f m ls hd=(m ls hd).bind λ p=>f p.1 p.2:=rfl
@[simp] theorem Si(tp:Bool)(g:List D->Option D):f1 tp g [d] hd=((if tp then B2 hd d else Az hd d)).bind λ ds=>(g ds).map (·,hd):=rfl
@[simp] theorem Pf(g:List D->Option D):Cp g m ls hd=(m ls hd).bind λ p=>(g p.1).map (·,p.2):=rfl
@[simp] theorem Xp(f:D->List D->Hd->Option (D × Hd)):mMt f ma m ls hd=(ma ls hd).bind λ p=>match Az p.2 p.1 with
  | some _=>(m ls p.2).bind λ q=>f p.1 q.1 q.2
  | none=>none:=rfl
@[simp] theorem YZ(i j:Int):Gg [.im (.int i),.im (.int j)] hd=some (.im (.int (if j > i then j else i)),hd):=rfl
@[simp] theorem YY(i j:Int):JW [.im (.int i),.im (.int j)] hd=some (.im (.int (if j < i then j else i)),hd):=rfl
@[simp] theorem Yx(i:Int):M9 [.im (.int i)] hd=some (.im (.int (if i < 0 then -i else i)),hd):=rfl
@[simp] theorem Wc:Lw m ma ls hd=(m ls hd).bind λ p=>(ma ls p.2).bind λ q=>match q.1 with
  | .im (.int i)=>(atI p.1 i).map (·,q.2)
  | _=>none:=rfl
@[simp] theorem JX:BS ma ls hd=(ma ls hd).bind λ p=>(Ad p.1).map λ ds=>((ds,[]),p.2):=rfl
@[simp] theorem Wf:Lx m ls hd=(m ls hd).map λ p=>((p.1,[]),p.2):=rfl
@[simp] theorem We:Ca ma ls hd=(ma ls hd).bind λ p=>match p.1 with
  | .mu n=>match p.2[n]? with
    | some (.lst ds)=>some ((ds,[(n,ds)]),p.2)
    | _=>none
  | .ro ns=>some ((ns.map λ n=>.im (.int n),[]),p.2)
  | _=>none:=rfl
open Classical in
@[simp] theorem Wd:Ek m ls hd=(m ls hd).bind λ p=>match p.1 with
  | [.im (.int j)]=>if HD j then some ((Ao 0 j.toNat,[]),p.2)else none
  | _=>none:=rfl
open Classical in
@[simp] theorem UX:JN m ls hd=(m ls hd).bind λ p=>match p.1 with
  | [.im (.int i),.im (.int j)]=>if Nf i j then some ((Ao i (j - i).toNat,[]),p.2)else none
  | _=>none:=rfl
@[simp] theorem Ph(mi:MI):Cq mi n a ls hd=(mi ls hd).bind λ p=>Br n a p.1.2 p.1.1 ls p.2:=rfl
open Classical in
@[simp] theorem NF(k:Nat)(ix:List Nat)(mi:MI):BG k ix mi n ta ma ls hd=(mi ls hd).bind λ p=>if C0 p.1.1.length then B3 n ta ma p.1.2 p.1.1 (Dh k ix ls) p.2 else none:=rfl
@[simp] theorem Yp:BL ls hd=some (true,hd):=rfl
@[simp] theorem YI(F:List D->Hd->Option (D × Hd)):EA F m ls hd=(m ls hd).bind λ p=>F p.1 p.2:=rfl
@[simp] theorem Y4:Dg ls hd=some (none,hd):=rfl
@[simp] theorem UU:Ev ma ls hd=(ma ls hd).bind λ p=>match p.1 with
  | .im (.int i)=>some (some i,p.2)
  | _=>none:=rfl
@[simp] theorem Ya:Xb ma ls hd=(ma ls hd).bind λ p=>(B2 p.2 p.1).map (·,p.2):=rfl
@[simp] theorem YH:JM m ls hd=m ls hd:=rfl
@[simp] theorem WX(ml mh:MO1):GV ma ml mh ls hd=(ma ls hd).bind λ p=>(ml ls p.2).bind λ l=>(mh ls l.2).bind λ h=>(Az h.2 p.1).bind λ ds=>some (EH ds l.1 h.1,h.2):=rfl
@[simp] theorem Yr(ml mh:MO1):YC ma ml mh ls hd=(ma ls hd).bind λ p=>(ml ls p.2).bind λ l=>(mh ls l.2).bind λ h=>(Ad p.1).bind λ ds=>if ¬ (HT.sIx ds.length 0 l.1=0/\HT.sIx ds.length ds.length h.1=ds.length)then some (Ai (EH ds l.1 h.1),h.2)else none:=rfl
@[simp] theorem YS:XX m ls hd=(Ia m ls hd).bind λ p=>some (Ai p.1,p.2):=rfl
open Classical in
@[simp] theorem WY:Ia m ls hd=(m ls hd).bind λ p=>match p.1 with
  | [.im (.int j)]=>if Kf j then some (Ao 0 j.toNat,p.2)else none
  | [.im (.int i),.im (.int j)]=>if SK i j then some (Ao i (j - i).toNat,p.2)else none
  | _=>none:=rfl
@[simp] theorem Xz(mi:MI):FC mi ls hd=(mi ls hd).bind λ p=>(BY p.1.1).bind λ ns=>if ns.length < 64 then some ((Db ns).map λ i=>.im (.int i),p.2)else none:=rfl
@[simp] theorem Yd(ms:List (ME × ME)):Xe ms ls hd=(Fy ms ls hd).bind λ p=>if p.1.length <= 15 then some (.mu p.2.length,p.2 ++ [.dic (PJ [] p.1)])else none:=rfl
@[simp] theorem Y3:Fy [] ls hd=some ([],hd):=rfl
@[simp] theorem YF(r:List (ME × ME)):Fy ((ma,mb) :: r) ls hd=(ma ls hd).bind λ p=>(mb ls p.2).bind λ q=>(Fy r ls q.2).bind λ z=>(Ha p.1).map λ k=>((k,q.1) :: z.1,z.2):=rfl
open Classical in
@[simp] theorem Yc:Xf ma mb mc ls hd=(mc ls hd).bind λ p=>(ma ls p.2).bind λ q=>(mb ls q.2).bind λ r=>(Ha r.1).bind λ k=>match q.1 with
  | .mu n=>match r.2[n]? with
    | some (.dic kvs)=>if Ex kvs.length then some (.nx ls,r.2.set n (.dic (RW kvs k p.1)))else none
    | _=>none
  | _=>none:=rfl
@[simp] theorem UW:E9 ma mb mc ls hd=(mc ls hd).bind λ p=>(ma ls p.2).bind λ q=>(mb ls q.2).bind λ r=>match q.1,r.1 with
  | .mu n,.im (.int i)=>match r.2[n]? with
    | some (.lst ds)=>(ixN ds.length i).map λ j=>(.nx ls,r.2.set n (.lst (ds.set j p.1)))
    | _=>none
  | _,_=>none:=rfl
@[simp] theorem Ky(is:List I):Ad (.im (.tup is))=some (is.map .im):=rfl
@[simp] theorem Z2(ds:List D):Ad (.tm ds)=some ds:=rfl
@[simp] theorem Z4(k:Nat):Ad (.mu k)=none:=rfl
@[simp] theorem Z3(k:List Int):Ad (.ro k)=none:=rfl
@[simp] theorem OZ(is:List I):B2 hd (.im (.tup is))=some (is.map .im):=rfl
@[simp] theorem ZA(ds:List D):B2 hd (.tm ds)=some ds:=rfl
@[simp] theorem ZC(k:Nat):B2 hd (.mu k)=Az hd (.mu k):=rfl
@[simp] theorem ZB(k:List Int):B2 hd (.ro k)=some (k.map λ n=>.im (.int n)):=rfl
@[simp] theorem ZE(k:Nat):Az hd (.mu k)=match hd[k]? with
    | some (.lst ds)=>some ds
    | _=>none:=rfl
@[simp] theorem ZD(k:List Int):Az hd (.ro k)=some (k.map λ n=>.im (.int n)):=rfl
@[simp] theorem ZL(k:Nat):K0 hd (.mu k)=match hd[k]? with
    | some (.dic ds)=>some ds
    | _=>none:=rfl
@[simp] theorem ZG(i:Int):Ha (.im (.int i))=some (.inl i):=rfl
@[simp] theorem ZF(i:Str):Ha (.im (.str i))=some (.inr i):=rfl
@[simp] theorem Z1:BZ []=some []:=rfl
@[simp] theorem ZN(i:I)(r:List D):BZ (.im i :: r)=(BZ r).map (i :: ·):=rfl
@[simp] theorem Yn:BY []=some []:=rfl
@[simp] theorem Yo(i:Int)(r:List D):BY (.im (.int i) :: r)=(BY r).map (i :: ·):=rfl
@[simp] theorem Z0:DM []=some []:=rfl
@[simp] theorem ZM(i:Bool)(r:List D):DM (.im (.bl i) :: r)=(DM r).map (i :: ·):=rfl
@[simp] theorem CZ(is:List I):Ai (is.map .im)=.im (.tup is):=by simp[Ai]
@[simp] theorem Xy:Ai []=.im (.tup []):=rfl
@[simp] theorem YR(i:I):Ai [.im i]=.im (.tup [i]):=rfl
@[simp] theorem UF(i j:I):Ai [.im i,.im j]=.im (.tup [i,j]):=rfl
@[simp] theorem YQ(i j k:I):Ai [.im i,.im j,.im k]=.im (.tup [i,j,k]):=rfl
@[simp] theorem YO(i j k l:I):Ai [.im i,.im j,.im k,.im l]=.im (.tup [i,j,k,l]):=rfl
@[simp] theorem Yz(w:Nat)(i:I):clD w (.im i)=true:=by simp[clD]
@[simp] theorem Yy(w n:Nat):clD w (.mu n)=decide (n < w):=by simp[clD]
@[simp] theorem YK(w:Nat):BT w []=true:=by simp[BT]
@[simp] theorem Pq(w:Nat)(d:D)(ds:List D):BT w (d :: ds)=(clD w d && BT w ds):=by simp[BT]
@[simp] theorem EJ{α:Type}(x:α)(r:List α):atI (x :: r) 0=some x:=Dx (j:=0) rfl
@[simp] theorem En{α:Type}(x y:α)(r:List α):atI (x :: y :: r) 1=some y:=Dx (j:=1) rfl
@[simp] theorem K5{α:Type}(x y z:α)(r:List α):atI (x :: y :: z :: r) 2=some z:=Dx (j:=2) rfl
theorem EI{α:Type}{xs:List α}{i:Int}{k:Nat}{x:α}(hi:i=k)(h:xs[k]? = some x):atI xs i=some x:=by subst hi;exact Dx h
@[simp] theorem DX:C0 0:=An (by decide)
@[simp] theorem G9:C0 1:=An (by decide)
@[simp] theorem DW:C0 2:=An (by decide)
@[simp] theorem Ed:C0 3:=An (by decide)
@[simp] theorem M8:C0 4:=An (by decide)
@[simp] theorem M7:C0 5:=An (by decide)
open Classical in
@[simp] theorem Wj(k:Nat)(x:D):Bz (.mu k) [x] hd=match hd[k]? with
    | some (.lst ds)=>if Ex ds.length then some (.im .non,hd.set k (.lst (ds ++ [x])))else none
    | _=>none:=rfl
theorem Fc{F:List D->Hd->Option (D × Hd)}{ds:List D}{hd1 h2:Hd}{i:I}(h1:m ls hd=some (ds,hd1))(hc:BT 0 ds=true)(hF:F ds []=some (.im i,h2)):AK 0 F m ls hd=some (.im i,hd1):=by
  simp[AK,h1,hc,hF,fin]
theorem MR{w:Nat}{F:List D->Hd->Option (D × Hd)}{ds:List D}{pre pre' rest g:Hd}{i:I}(hw:pre.length=w)(hw':pre'.length=w)(h1:m ls hd=some (ds,pre ++ rest))(hc:BT w ds=true)(hp:pre.all (clO w)=true)(hp':pre'.all (clO w)=true)(hF:F ds pre=some (.im i,pre' ++ g)):AK w F m ls hd=some (.im i,pre' ++ rest):=by
  subst hw
  have e1:(pre ++ rest).take pre.length=pre:=by simp
  have e2:(pre' ++ g).take pre.length=pre':=by rw[<- hw'];simp
  simp only[AK,h1,Option.bind_some,e1,hc,hp,hF,fin,e2,hp']
  simp
end
theorem Ic{n:MG}{b:MS}{g:Gd}{ls:Ls}{hd:Hd}:Br n b g [] ls hd=some (.nx ls,hd):=by unfold Br;rfl
theorem HX{n:MG}{b:MS}{g:Gd}{d:D}{r:List D}{ls ls1 ls2:Ls}{hd hd2:Hd}(h1:n d ls hd=some ls1)(h2:b ls1 hd=some (.nx ls2,hd2))(h3:GOk hd2 g):Br n b g (d :: r) ls hd=Br n b g r ls2 hd2:=by
  conv=>lhs;unfold Br
  simp[h1,h2,h3]
theorem Ro{n:MG}{b:MS}{g:Gd}{d v:D}{r:List D}{ls ls1:Ls}{hd hd2:Hd}(h1:n d ls hd=some ls1)(h2:b ls1 hd=some (.rt v,hd2)):Br n b g (d :: r) ls hd=some (.rt v,hd2):=by
  conv=>lhs;unfold Br
  simp[h1,h2]
end L2
namespace L2
open PySem PySem.Spec PyProof.Rows
noncomputable abbrev LC2(elt tg iter:Expr)(ifs:List Expr)(tg2 iter2:Expr)(ifs2:List Expr)(scope:Scope)(pos:Pos):Expr:=.ListComp elt [⟨tg,iter,ifs,0⟩,⟨tg2,iter2,ifs2,0⟩] scope pos
theorem T1(elt tg iter:Expr)(ifs:List Expr)(tg2 iter2:Expr)(ifs2:List Expr)(scope:Scope)(pos:Pos)(it acc:Value)(env:Env) :
    compTurn (LC2 elt tg iter ifs tg2 iter2 ifs2 scope pos) 0 it acc env=(do
      standAt iter.pos
      match <- pyNext it with
      | none=>pure (.done .next)
      | some v=>
        letOwnedTupleGo tg it v
        assign tg env v
        let mut ok:=true
        for c in ifs do
          if ok then ok <- isTrue c env (eval c env)
        if ok then
          let x <- eval iter2 env
          standAt iter2.pos
          let x <- foldedSetIterable iter2 env x
          let _ <- runOwn (.compStart (LC2 elt tg iter ifs tg2 iter2 ifs2 scope pos) 1 (<- holding [x] (pyIter x)) acc env) env
        again (.compLoop (LC2 elt tg iter ifs tg2 iter2 ifs2 scope pos) 0 it acc env)):=by rfl
theorem T0(elt tg iter:Expr)(ifs:List Expr)(tg2 iter2:Expr)(ifs2:List Expr)(scope:Scope)(pos:Pos)(it acc:Value)(env:Env) :
    compTurn (LC2 elt tg iter ifs tg2 iter2 ifs2 scope pos) 1 it acc env=(do
      standAt iter2.pos
      match <- pyNext it with
      | none=>pure (.done .next)
      | some v=>
        letOwnedTupleGo tg2 it v
        assign tg2 env v
        let mut ok:=true
        for c in ifs2 do
          if ok then ok <- isTrue c env (eval c env)
        if ok then
          (do let _ <- call (.builtin "list.append") [acc,<- eval elt env])
        again (.compLoop (LC2 elt tg iter ifs tg2 iter2 ifs2 scope pos) 1 it acc env)):=by rfl
section
variable{prog:Program}{w:World}{A:Around}{R:Result->Shared->Prop}{s:Shared}{elt tg iter tg2 iter2:Expr}{ifs ifs2:List Expr}{scope:Scope}{pos:Pos}{it acc:Value}{env:Env}
theorem UL(I:Nat->Shared->Prop)
    (turn:∀ n s,I n s->wpAny (model prog w) A (pyNext it) (λ r s₁=>match r with
      | none=>R (.ok .next) s₁
      | some v=>wpAny (model prog w) A (letOwnedTupleGo tg2 it v) (λ _ s₁=>wpAny (model prog w) A (assign tg2 env v) (λ _ s₂=>
          wpAny (model prog w) A (forIn ifs2 true λ c r=>if r=true then do let ok <- isTrue c env (eval c env);pure (ForInStep.yield ok)else pure (ForInStep.yield r)) (λ ok s₃=>
            if ok=true then wpAny (model prog w) A (eval elt env) (λ x s₄=>
              wpAny (model prog w) A (call (.builtin "list.append") [acc,x]) (λ _ s₅=>∃ m,m < n/\I m s₅) (λ _ _=>False) s₄) (λ _ _=>False) s₃
            else ∃ m,m < n/\I m s₃) (λ _ _=>False) s₂) (λ _ _=>False) s₁) (λ _ _=>False) s₁) (λ _ _=>False) s)
    (n:Nat) (h:I n s):codeAny (model prog w) A (.compLoop (LC2 elt tg iter ifs tg2 iter2 ifs2 scope pos) 1 it acc env) R s:=by
  refine codeAny_loop rfl I (λ n s hI=>?_) n h
  show wpAny _ A ((compTurn (LC2 elt tg iter ifs tg2 iter2 ifs2 scope pos) 1 it acc env).onRaise (λ x=>do noteFrame x env;theTreesLotGoes x)) _ _ s
  refine wpAny_noted ?_
  rw[T0]
  refine wpAny_bind (wpAny_standAt (wpAny_bind (wpAny_mono (turn n s hI) (λ r s₁ h₁=>?_) λ _ _ h'=>h'.elim)))
  cases r with
  | none=>exact wpAny_pure h₁
  | some v=>
    refine wpAny_bind (wpAny_mono h₁ (λ _ s₁ h₁=>?_) λ _ _ h'=>h'.elim)
    refine wpAny_bind (wpAny_mono h₁ (λ _ s₂ h₂=>wpAny_bind (wpAny_mono h₂ (λ ok s₃ h₃=>?_) λ _ _ h'=>h'.elim)) λ _ _ h'=>h'.elim)
    cases ok with
    | false=>exact wpAny_pure ⟨rfl,h₃⟩
    | true=>
      exact wpAny_bind (wpAny_bind (wpAny_mono h₃ (λ x s₄ h₄=>wpAny_bind (wpAny_mono h₄ (λ _ s₅ h₅=>wpAny_pure (wpAny_pure ⟨rfl,h₅⟩)) λ _ _ h'=>h'.elim)) λ _ _ h'=>h'.elim))
theorem UM(hs:∀ x,foldedSetIterable iter2 env x=pure x)(I:Nat->Shared->Prop)
    (turn:∀ n s,I n s->wpAny (model prog w) A (pyNext it) (λ r s₁=>match r with
      | none=>R (.ok .next) s₁
      | some v=>wpAny (model prog w) A (letOwnedTupleGo tg it v) (λ _ s₁=>wpAny (model prog w) A (assign tg env v) (λ _ s₂=>
          wpAny (model prog w) A (forIn ifs true λ c r=>if r=true then do let ok <- isTrue c env (eval c env);pure (ForInStep.yield ok)else pure (ForInStep.yield r)) (λ ok s₃=>
            if ok=true then wpAny (model prog w) A (eval iter2 env) (λ x s₄=>wpAny (model prog w) A (pyIter x) (λ it2 s₅=>
              codeAny (model prog w) A (.compStart (LC2 elt tg iter ifs tg2 iter2 ifs2 scope pos) 1 it2 acc env) (λ r s₆=>r=.ok .next/\∃ m,m < n/\I m s₆) s₅) (λ _ _=>False) s₄) (λ _ _=>False) s₃
            else ∃ m,m < n/\I m s₃) (λ _ _=>False) s₂) (λ _ _=>False) s₁) (λ _ _=>False) s₁) (λ _ _=>False) s)
    (n:Nat) (h:I n s):codeAny (model prog w) A (.compLoop (LC2 elt tg iter ifs tg2 iter2 ifs2 scope pos) 0 it acc env) R s:=by
  refine codeAny_loop rfl I (λ n s hI=>?_) n h
  show wpAny _ A ((compTurn (LC2 elt tg iter ifs tg2 iter2 ifs2 scope pos) 0 it acc env).onRaise (λ x=>do noteFrame x env;theTreesLotGoes x)) _ _ s
  refine wpAny_noted ?_
  rw[T1]
  refine wpAny_bind (wpAny_standAt (wpAny_bind (wpAny_mono (turn n s hI) (λ r s₁ h₁=>?_) λ _ _ h'=>h'.elim)))
  cases r with
  | none=>exact wpAny_pure h₁
  | some v=>
    refine wpAny_bind (wpAny_mono h₁ (λ _ s₁ h₁=>?_) λ _ _ h'=>h'.elim)
    refine wpAny_bind (wpAny_mono h₁ (λ _ s₂ h₂=>wpAny_bind (wpAny_mono h₂ (λ ok s₃ h₃=>?_) λ _ _ h'=>h'.elim)) λ _ _ h'=>h'.elim)
    cases ok with
    | false=>exact wpAny_pure ⟨rfl,h₃⟩
    | true=>
      refine wpAny_bind (wpAny_mono h₃ (λ x s₄ h₄=>wpAny_bind (wpAny_standAt ?_)) λ _ _ h'=>h'.elim)
      rw[hs]
      refine wpAny_bind (wpAny_pure (wpAny_bind (wpAny_holding (wpAny_mono h₄ (λ it2 s₅ h₅=>wpAny_bind (wpAny_runOwn (codeAny_mono h₅ λ r s₆ h₆=>?_))) λ _ _ h'=>h'.elim))))
      obtain⟨rfl,h₆⟩:=h₆
      exact wpAny_pure ⟨rfl,h₆⟩
theorem Qc(h0:codeAny (model prog w) A (.compLoop (LC2 elt tg iter ifs tg2 iter2 ifs2 scope pos) 1 it acc env) R s)
    (h:wpAny (model prog w) A (pyIter it) (λ it' s'=>codeAny (model prog w) A (.compLoop (LC2 elt tg iter ifs tg2 iter2 ifs2 scope pos) 1 it' acc env) R s') (λ _ _=>False) s) :
    codeAny (model prog w) A (.compStart (LC2 elt tg iter ifs tg2 iter2 ifs2 scope pos) 1 it acc env) R s:=by
  refine codeAny_of_tree ?_
  show wpAny _ _ ((compStart (LC2 elt tg iter ifs tg2 iter2 ifs2 scope pos) 1 it acc env).onRaise (λ x=>do noteFrame x env;standAt theWindowsPlace)) _ _ s
  refine wpAny_notedAt ?_
  unfold compStart
  show wpAny _ _ (ask >>= _) _ _ s
  refine wpAny_bind (wpAny_askSetting (wpAny_ite ?_))
  split
  . exact wpAny_bind (wpAny_pure (wpAny_pure (And.intro rfl h0)))
  . exact wpAny_bind (wpAny_rule (wpAny_bind (wpAny_standAt (wpAny_bind (wpAny_mono h (λ it' s' h'=>wpAny_pure (And.intro rfl h')) λ _ _ x=>x.elim)))))
end
end L2
namespace L2
open PySem PySem.Spec PyProof.Rows
noncomputable def OO(J:It)(D:Addr)(σ0:St)(H0:Hp)(g:TG)(tf:TT)(te:TE)(Q:St->Hp->Prop):Prop:=∃ W:Nat->Nat->St->Hp->Prop,
  (∃ m,W 0 m σ0 H0)/\∀ i m σ H,W i m σ H ->
    ((J.stop i H/\Q σ H) ∨ (J.go i H/\∃ N:St->Hp->Prop,(∀ σ' H',N σ' H'->∃ m',m' < m/\W (i + 1) m' σ' H') /\
      ∀ x H',J.yld i H x H'->g x σ H' λ σ2 H2=>tf σ2 H2 λ b H3=>
        if b=true then te σ2 H3 λ v H4=>∃ ys,H4 D=some (.lst ys)/\ys.length < sizeLine/\N σ2 (upd H4 D (.lst (ys ++ [v])))
        else N σ2 H3))
noncomputable def Q3(J:It)(D:Addr)(σ0:St)(H0:Hp)(g:TG)(tf:TT)(wi2:TI)(g2:TG)(tf2:TT)(te:TE)(Q:VK):Prop:=∃ W:Nat->Nat->St->Hp->Prop,
  (∃ m,W 0 m σ0 (upd H0 D (.lst [])))/\∀ i m σ H,W i m σ H ->
    ((J.stop i H/\Q (.ref D) H) ∨ (J.go i H/\∃ N:St->Hp->Prop,(∀ σ' H',N σ' H'->∃ m',m' < m/\W (i + 1) m' σ' H') /\
      ∀ x H',J.yld i H x H'->g x σ H' λ σ2 H2=>tf σ2 H2 λ b H3=>
        if b=true then wi2 σ2 H3 λ J2 H4=>OO J2 D σ2 H4 g2 tf2 te N
        else N σ2 H3))
noncomputable def HA(n:Nat)(ix:List Nat)(wi:TI)(g:TG)(tf:TT)(wi2:TI)(g2:TG)(tf2:TT)(te:TE):TE:=λ σ H Q=>wi σ H λ J H1=>∀ D,H1 D=none->Q3 J D (FU n ix σ) H1 g tf wi2 g2 tf2 te Q
section
variable{X:Cx}
theorem OF{elt tg iter tg2 iter2:Expr}{ifs ifs2:List Expr}{scope:Scope}{pos:Pos}{N':List Str}{s3:Shared}{H3:Hp}{fp3:List Addr}{g:TG}{tf:TT}{te:TE}{pins:List (Addr × Obj)}{σ:St}{H:Hp}{s:Shared}{D it:Addr}{fp:List Addr}{tn:Nat->Heap->Prop}{J:It}{Q:St->Hp->Prop}
    (hc:X.calm=true) (hg:PG (cCx X N' scope s3 H3 fp3) tg2 g) (hf:PF (cCx X N' scope s3 H3 fp3) ifs2 tf) (he:PE (cCx X N' scope s3 H3 fp3) elt te)
    (I:Inv (cCx X N' scope s3 H3 fp3) pins σ H s) (T:Turn X.prog X.w X.K tg2 J fp it tn) (st:tn 0 s.heap) (f2:∀ b ∈ fp,C6 (cCx X N' scope s3 H3 fp3) pins H b) (hW:OO J D σ H g tf te Q) :
    codeAny (model X.prog X.w) X.A (.compStart (LC2 elt tg iter ifs tg2 iter2 ifs2 scope pos) 1 (.ref it) (.ref D) (cCx X N' scope s3 H3 fp3).env)
      (λ r s'=>r=.ok .next/\∃ σ' H',Inv (cCx X N' scope s3 H3 fp3) pins σ' H' s'/\Q σ' H') s:=by
  obtain⟨W,⟨m0,w0⟩,turn⟩:=hW
  have fpX:∀ {H':Hp},(∀ b ∈ fp,H' b=none)->∀ b ∈ fp,C6 (cCx X N' scope s3 H3 fp3) pins H' b:=λ hn b hb=>⟨hn b hb,(f2 b hb).2⟩
  have loop:codeAny (model X.prog X.w) X.A (.compLoop (LC2 elt tg iter ifs tg2 iter2 ifs2 scope pos) 1 (.ref it) (.ref D) (cCx X N' scope s3 H3 fp3).env)
      (λ r s'=>r=.ok .next/\∃ σ' H',Inv (cCx X N' scope s3 H3 fp3) pins σ' H' s'/\Q σ' H') s:=by
    refine UL (λ n s'=>∃ i σ' H',Inv (cCx X N' scope s3 H3 fp3) pins σ' H' s'/\tn i s'.heap/\(∀ b ∈ fp,H' b=none)/\W i n σ' H') ?_ m0
      ⟨0,_,_,I,st,λ b hb=>(f2 b hb).1,w0⟩
    rintro n s5 ⟨i,σ5,H5,I5,st5,fr5,w5⟩
    have w5:=turn i n σ5 H5 w5
    rcases w5 with⟨stop,qn⟩|⟨go,N,hN,step⟩
    . refine thn (T.done (cCx X N' scope s3 H3 fp3) rfl rfl rfl hc i pins s5 σ5 H5 _ I5 (fpX fr5) st5 stop) λ r s6 ⟨hr,I6⟩=>?_
      subst hr
      exact⟨rfl,σ5,H5,I6,qn⟩
    . refine thn (T.item (cCx X N' scope s3 H3 fp3) rfl rfl rfl hc i pins s5 σ5 H5 _ I5 (fpX fr5) st5 go) λ r s6 ⟨u,hr,h6⟩=>?_
      subst hr
      refine thn h6 λ _ s7 ⟨x,H7,I7,r7,y7,st7,fr7⟩=>?_
      have I7':=I7.pinned (fpX fr7) (T.obj _ _ st7)
      have keepI:∀ {σ8:St} {H8:Hp} {s8:Shared},Inv (cCx X N' scope s3 H3 fp3) (pins ++ E5 fp s7.heap) σ8 H8 s8->tn (i + 1) s8.heap/\∀ b ∈ fp,H8 b=none:=λ {σ8 H8 s8} I8=>by
        refine⟨T.keep _ _ _ st7 λ b hb o e=>(I8.pin (b,o) (List.mem_append_right _ (List.mem_append_right _ (BQ hb e)))).1,λ b hb=>?_⟩
        obtain⟨o,e,d⟩:=T.obj _ _ st7 b hb
        exact(I8.pin (b,o) (List.mem_append_right _ (List.mem_append_right _ (BQ hb e)))).2.1
      refine thn (hg _ s7 σ5 H7 x u _ I7' r7 (step x H7 y7)) λ _ s8 ⟨σ8,H8,I8,q8⟩=>?_
      refine thn (hf _ s8 σ8 H8 _ I8 q8) λ b s9 ⟨H9,I9,q9⟩=>?_
      cases b with
      | false=>
        rw[if_neg Bool.false_ne_true]at q9 ⊢
        obtain⟨m',hm,w9⟩:=hN _ _ q9
        exact⟨m',hm,i + 1,σ8,H9,I9.unpinned,(keepI I9).1,(keepI I9).2,w9⟩
      | true=>
        rw[if_pos rfl]at q9 ⊢
        refine thn (he _ s9 σ8 H9 _ I9 q9) λ e10 s10 ⟨v10,H10,I10,r10,ys,hD10,hz,n10⟩=>?_
        obtain⟨m',hm,w10⟩:=hN _ _ n10
        refine MX (X:=cCx X N' scope s3 H3 fp3) I10 hD10 r10 hz λ _ s11 I11=>?_
        exact⟨m',hm,i + 1,σ8,_,I11.unpinned,(keepI I11).1,(keepI I11).2,w10⟩
  exact Qc loop (T.self X.A 0 _ _ _ st loop)
theorem IJ{elt tg iter tg2 iter2:Expr}{ifs ifs2:List Expr}{scope:Scope}{pos:Pos}{loc fr:List Str}{ix:List Nat}{g g2:TG}{tf tf2:TT}{wi2:TI}{te:TE}{pins:List (Addr × Obj)}{σ:St}{Q:VK}{it:Addr}{fp:List Addr}{tn:Nat->Heap->Prop}{J:It}{H2:Hp}{s2:Shared}{E:Value->Shared->Prop}
    {RR:Value->Addr->Result->Shared->Prop} (hc:X.calm=true) (S:CSc X scope fr ix)
    (hg:∀ s H ex,PG (cCx X (loc ++ fr) scope s H ex) tg g) (hf:∀ s H ex,PF (cCx X (loc ++ fr) scope s H ex) ifs tf) (hi2:∀ s H ex,PI (cCx X (loc ++ fr) scope s H ex) tg2 iter2 wi2) (hg2:∀ s H ex,PG (cCx X (loc ++ fr) scope s H ex) tg2 g2) (hf2:∀ s H ex,PF (cCx X (loc ++ fr) scope s H ex) ifs2 tf2) (he:∀ s H ex,PE (cCx X (loc ++ fr) scope s H ex) elt te)
    (hs2:∀ s H ex x,foldedSetIterable iter2 (cCx X (loc ++ fr) scope s H ex).env x=pure x)
    (I2:Inv X pins σ H2 s2) (T:Turn X.prog X.w X.K tg J fp it tn) (st2:tn 0 s2.heap) (f2:∀ b ∈ fp,C6 X pins H2 b) (hW:∀ D,H2 D=none->Q3 J D (FU loc.length ix σ) H2 g tf wi2 g2 tf2 te Q)
    (hfin:∀ (s3 s6:Shared) (H5:Hp) (σ5:St) (D:Addr),Inv X pins σ (upd H2 D (.lst [])) s3->Inv (cCx X (loc ++ fr) scope s3 (upd H2 D (.lst [])) fp) [] σ5 H5 s6->(∀ b ∈ fp,C6 X pins (upd H2 D (.lst [])) b)->Q (.ref D) H5->RR (.ref D) s3.heap.objs.size (.ok .next) s6) :
    wpAny (model X.prog X.w) X.A (newList []) (λ acc s₃=>wpAny (model X.prog X.w) X.A (newFunctionEnv scope X.env.globals (BN X.env.cells scope.names []) [] X.env.qual none .none (some X.env)) (λ cenv s₄=>
      codeAny (model X.prog X.w) X.A (.compStart (LC2 elt tg iter ifs tg2 iter2 ifs2 scope pos) 0 (.ref it) acc { cenv with scope:=relabel scope X.env }) (RR acc cenv.locals) s₄) E s₃) E s2:=by
  refine wpAny_newObj_type ?_
  have fresh2:H2 s2.heap.objs.size=none:=I2.hok.fresh (Nat.le_refl _)
  have I3:=I2.lnew (its:=[]) (ys:=[]) (t':=s2.toks) .nil (Nat.zero_le _)
  obtain⟨W,⟨m0,w0⟩,turn⟩:=hW s2.heap.objs.size fresh2
  have lt2:∀ b ∈ fp,b < s2.heap.objs.size:=λ b hb=>let ⟨o,e,_⟩:=T.obj 0 _ st2 b hb;Heap.lt_size e
  have f3:∀ b ∈ fp,C6 X pins (upd H2 s2.heap.objs.size (.lst [])) b:=λ b hb=>⟨by rw[AR (Nat.ne_of_lt (lt2 b hb))];exact(f2 b hb).1,(f2 b hb).2⟩
  have lt3:∀ b ∈ fp,b < (s2.heap.push { cls:=.type "list",data:=.seq ([]:List Value).toArray }).objs.size:=λ b hb=>by rw[Heap.size_push];exact Nat.lt_succ_of_lt (lt2 b hb)
  generalize hs3:({ s2 with heap:=s2.heap.push { cls:=.type "list",data:=.seq ([]:List Value).toArray } }:Shared)=s3 at *
  have lt3:∀ b ∈ fp,b < s3.heap.objs.size:=by rw[<- hs3];exact lt3
  have st3:tn 0 s3.heap:=T.keep _ _ _ st2 λ b hb o e=>by rw[<- hs3];exact Heap.get?_push_of_some _ e
  refine Hv λ h' hk hn ho ha=>?_
  have I4:=GX (loc:=loc) S I3 f3 hk hn ho ha lt3
  have fpX:∀ {H':Hp},(∀ b ∈ fp,H' b=none)->∀ b ∈ fp,C6 (cCx X (loc ++ fr) scope s3 (upd H2 s2.heap.objs.size (.lst [])) fp) [] H' b:=λ hn b hb=>
    ⟨hn b hb,(I4.ok.exf b hb).1,I4.ok.exfs b hb,.inl hb,(I4.ok.exf b hb).2,λ p hp=>by cases hp⟩
  have loop:codeAny (model X.prog X.w) X.A (.compLoop (LC2 elt tg iter ifs tg2 iter2 ifs2 scope pos) 0 (.ref it) (.ref s2.heap.objs.size) (MU scope s3.heap.objs.size X.env))
      (RR (.ref s2.heap.objs.size) s3.heap.objs.size) { s3 with heap:=h' }:=by
    refine UM (hs2 s3 (upd H2 s2.heap.objs.size (.lst [])) fp) (λ n s'=>∃ i σ' H',Inv (cCx X (loc ++ fr) scope s3 (upd H2 s2.heap.objs.size (.lst [])) fp) [] σ' H' s'/\tn i s'.heap/\(∀ b ∈ fp,H' b=none)/\W i n σ' H') ?_ m0
      ⟨0,_,_,I4,T.keep _ _ _ st3 λ b hb o e=>hk b o e,λ b hb=>(f3 b hb).1,w0⟩
    rintro n s5 ⟨i,σ5,H5,I5,st5,fr5,w5⟩
    have w5:=turn i n σ5 H5 w5
    rcases w5 with⟨stop,qn⟩|⟨go,N,hN,step⟩
    . refine thn (T.done (cCx X (loc ++ fr) scope s3 (upd H2 s2.heap.objs.size (.lst [])) fp) rfl rfl rfl hc i [] s5 σ5 H5 _ I5 (fpX fr5) st5 stop) λ r s6 ⟨hr,I6⟩=>?_
      subst hr
      exact hfin s3 s6 H5 σ5 s2.heap.objs.size I3 I6 f3 qn
    . refine thn (T.item (cCx X (loc ++ fr) scope s3 (upd H2 s2.heap.objs.size (.lst [])) fp) rfl rfl rfl hc i [] s5 σ5 H5 _ I5 (fpX fr5) st5 go) λ r s6 ⟨u,hr,h6⟩=>?_
      subst hr
      refine thn h6 λ _ s7 ⟨x,H7,I7,r7,y7,st7,fr7⟩=>?_
      have I7':=I7.pinned (fpX fr7) (T.obj _ _ st7)
      have keepI:∀ {σ8:St} {H8:Hp} {s8:Shared},Inv (cCx X (loc ++ fr) scope s3 (upd H2 s2.heap.objs.size (.lst [])) fp) ([] ++ E5 fp s7.heap) σ8 H8 s8->tn (i + 1) s8.heap/\∀ b ∈ fp,H8 b=none:=λ {σ8 H8 s8} I8=>by
        refine⟨T.keep _ _ _ st7 λ b hb o e=>(I8.pin (b,o) (List.mem_append_right _ (List.mem_append_right _ (BQ hb e)))).1,λ b hb=>?_⟩
        obtain⟨o,e,d⟩:=T.obj _ _ st7 b hb
        exact(I8.pin (b,o) (List.mem_append_right _ (List.mem_append_right _ (BQ hb e)))).2.1
      refine thn (hg s3 (upd H2 s2.heap.objs.size (.lst [])) fp _ s7 σ5 H7 x u _ I7' r7 (step x H7 y7)) λ _ s8 ⟨σ8,H8,I8,q8⟩=>?_
      refine thn (hf s3 (upd H2 s2.heap.objs.size (.lst [])) fp _ s8 σ8 H8 _ I8 q8) λ b s9 ⟨H9,I9,q9⟩=>?_
      cases b with
      | false=>
        rw[if_neg Bool.false_ne_true]at q9 ⊢
        obtain⟨m',hm,w9⟩:=hN _ _ q9
        exact⟨m',hm,i + 1,σ8,H9,I9.unpinned,(keepI I9).1,(keepI I9).2,w9⟩
      | true=>
        rw[if_pos rfl]at q9 ⊢
        refine thn (hi2 s3 (upd H2 s2.heap.objs.size (.lst [])) fp _ s9 σ8 H9 _ I9 q9) λ v10 s10 h10=>thn h10 λ it2 s11 h11=>?_
        obtain⟨itb,fpb,tnb,Jb,Hb,rfl,Ib,Tb,stb,fb,hWb⟩:=h11
        refine codeAny_mono (OF hc (hg2 _ _ _) (hf2 _ _ _) (he _ _ _) Ib Tb stb fb hWb) λ r s12 ⟨hr,σ12,H12,I12,n12⟩=>⟨hr,?_⟩
        obtain⟨m',hm,w12⟩:=hN _ _ n12
        exact⟨m',hm,i + 1,σ12,H12,I12.unpinned,(keepI I12).1,(keepI I12).2,w12⟩
  exact codeAny_compStart_list loop (T.self X.A 0 _ _ _ (T.keep _ _ _ st3 λ b hb o e=>hk b o e) loop)
theorem Rk{elt tg iter tg2 iter2:Expr}{ifs ifs2:List Expr}{scope:Scope}{pos:Pos}{loc fr:List Str}{ix:List Nat}{wi wi2:TI}{g g2:TG}{tf tf2:TT}{te:TE}(hc:X.calm=true)(S:CSc X scope fr ix)(hi:PI X tg iter wi)
    (hg:∀ s H ex,PG (cCx X (loc ++ fr) scope s H ex) tg g) (hf:∀ s H ex,PF (cCx X (loc ++ fr) scope s H ex) ifs tf) (hi2:∀ s H ex,PI (cCx X (loc ++ fr) scope s H ex) tg2 iter2 wi2) (hg2:∀ s H ex,PG (cCx X (loc ++ fr) scope s H ex) tg2 g2) (hf2:∀ s H ex,PF (cCx X (loc ++ fr) scope s H ex) ifs2 tf2) (he:∀ s H ex,PE (cCx X (loc ++ fr) scope s H ex) elt te)
    (hs:∀ x,foldedSetIterable iter X.env x=pure x:=by intro _;rfl) (hs2:∀ s H ex x,foldedSetIterable iter2 (cCx X (loc ++ fr) scope s H ex).env x=pure x:=by intro _ _ _ _;rfl) :
    PE X (LC2 elt tg iter ifs tg2 iter2 ifs2 scope pos) (HA loc.length ix wi g tf wi2 g2 tf2 te):=by
  intro pins s σ H Q I h
  rw[eval_ListComp]
  have hnames:∀ y ∈ scope.names,y.2=.local->scope.names.lookup y.1=some .local:=λ y hy e=>by
    have:=List.all_eq_true.mp S.loc y hy
    rw[e]at this
    simpa using this
  refine wpAny_comprehension_free (use:=none) rfl hs (DE (S.clos I.ok)) S.kind hnames (thn (hi pins s σ H _ I h) λ v s1 h1=>thn h1 λ itv s2 h2=>?_)
  obtain⟨it,fp,tn,J,H2,rfl,I2,T,st2,f2,hW⟩:=h2
  refine IJ (RR:=λ acc C=>compPost (model X.prog X.w) X.A X.xe none (EP X pins σ Q) acc C) hc S hg hf hi2 hg2 hf2 he hs2 I2 T st2 f2 hW λ s3 s6 H5 σ5 L I3 I6 f3 q=>?_
  obtain⟨m,hm,_⟩:=I6.loc
  exact⟨m,hm,λ h'' hs'=>⟨.ref L,H5,Fi I3 I6 f3 hs',rfl,q⟩⟩
end
end L2
namespace L2
open PySem PySem.Spec PyProof.Rows
open Classical in
noncomputable def mIn(k:Nat)(n:MG)(c:MT)(m:ME)(g:Gd):List D->Ls->Hd->Option (Ls × Hd)
  | [],ls,hd=>some (ls,hd)
  | d :: r,ls,hd=>(n d ls hd).bind λ ls1=>(c ls1 hd).bind λ p=>if p.1=true then(m ls1 p.2).bind λ q=>(Bz (.mu k) [q.1] q.2).bind λ z=>if GOk z.2 g then mIn k n c m g r ls1 z.2 else none else if GOk p.2 g then mIn k n c m g r ls1 p.2 else none
open Classical in
noncomputable def Ej(k:Nat)(n:MG)(c:MT)(mi:MI)(n2:MG)(c2:MT)(m:ME)(g:Gd):List D->Ls->Hd->Option Hd
  | [],ls,hd=>some hd
  | d :: r,ls,hd=>(n d ls hd).bind λ ls1=>(c ls1 hd).bind λ p=>if p.1=true then(mi ls1 p.2).bind λ q=>(mIn k n2 c2 m q.1.2 q.1.1 ls1 q.2).bind λ z=>if GOk z.2 g then Ej k n c mi n2 c2 m g r z.1 z.2 else none else if GOk p.2 g then Ej k n c mi n2 c2 m g r ls1 p.2 else none
noncomputable def Eb(j:Nat)(ix:List Nat)(mi:MI)(n:MG)(c:MT)(mi2:MI)(n2:MG)(c2:MT)(m:ME):ME:=λ ls hd=>(mi ls hd).bind λ p=>(Ej p.2.length n c mi2 n2 c2 m p.1.2 p.1.1 (Dh j ix ls) (p.2 ++ [.lst []])).map λ h=>(.mu p.2.length,h)
section
variable{K:PySem.W.Frag}{ρ:List Addr}{H:Hp}{hd:Hd}
theorem UT{h:Hd}{g:Gd}(G:GOk h g)(r:Hd):GOk (h ++ r) g:=λ p hp=>by
  have:=G p hp
  have hl:p.1 < h.length:=(List.getElem?_eq_some_iff.mp this).1
  rw[List.getElem?_append_left hl];exact this
theorem Y8{g:TG}{tf:TT}{te:TE}{n:MG}{c:MT}{m:ME}(hg:RGt K g n)(hf:RT K tf c)(he:RE K te m){J:It}{ds:List D}{gd:Gd}{k:Nat}{Da:Addr}{ls ls':Ls}{hd':Hd}{σ:St}{Q:St->Hp->Prop}
    (hR:RH K ρ H hd) (hL:RL K ρ H ls σ) (G:GOk hd gd) (Y:Jd K ρ H J ds gd) (hk:ρ[k]? = some Da) (hm:mIn k n c m gd ds ls hd=some (ls',hd'))
    (hQ:∀ ρ' H' σ',Ext ρ H ρ' H'->RH K ρ' H' hd'->RL K ρ' H' ls' σ'->Q σ' H'):OO J Da σ H g tf te Q:=by
  refine⟨λ i mm σ2 H2=>mm=ds.length - i/\i <= ds.length/\∃ ρ2 ls2 hd2,Ext ρ H ρ2 H2/\RH K ρ2 H2 hd2/\RL K ρ2 H2 ls2 σ2/\GOk hd2 gd/\mIn k n c m gd (ds.drop i) ls2 hd2=some (ls',hd'),
    ⟨ds.length,by simp,Nat.zero_le _,ρ,ls,hd,.refl,hR,hL,G,by simpa using hm⟩,?_⟩
  rintro i mm σ2 H2 ⟨rfl,hi,ρ2,ls2,hd2,x2,R2,L2',G2,hm2⟩
  obtain⟨Y1,Y2⟩:=Y ρ2 H2 hd2 x2 R2 G2 i
  have hk2:ρ2[k]? = some Da:=by
    obtain⟨r,rfl,_⟩:=x2.pre
    rw[List.getElem?_append_left (List.getElem?_eq_some_iff.mp hk).1];exact hk
  by_cases hlt:i < ds.length
  . obtain⟨go,Y1⟩:=Y1 hlt
    have ed:ds.drop i=ds[i] :: ds.drop (i + 1):=List.drop_eq_getElem_cons hlt
    rw[ed]at hm2
    unfold mIn at hm2
    obtain⟨ls3,e3,hm2⟩:=Option.bind_eq_some_iff.mp hm2
    obtain⟨⟨bb,hd4⟩,e4,hm2⟩:=Option.bind_eq_some_iff.mp hm2
    refine .inr ⟨go,λ σ' H'=>∃ ρ2 ls2 hd2,Ext ρ H ρ2 H'/\RH K ρ2 H' hd2/\RL K ρ2 H' ls2 σ'/\GOk hd2 gd/\mIn k n c m gd (ds.drop (i + 1)) ls2 hd2=some (ls',hd'),λ σ' H' z=>⟨ds.length - (i + 1),by omega,rfl,hlt,z⟩,λ x H3 y=>?_⟩
    obtain⟨ρ3,d3,x3,rfl,R3,e5,r3⟩:=Y1 x H3 y
    have e6:d3=ds[i]:=by
      have:ds[i]? = some ds[i]:=by simp[hlt]
      rw[this]at e5;exact(Option.some.inj e5).symm
    subst e6
    refine hg ρ3 σ2 H3 hd2 ls2 ls3 _ x _ R3 (L2'.ext R2 x3) r3 e3 λ σ4 L4=>?_
    refine hf ρ3 σ4 H3 hd2 ls3 _ bb hd4 R3 L4 e4 λ ρ5 H5 x5 R5=>?_
    have y25:=x3.trans R3 x5
    cases bb with
    | false=>
      rw[if_neg Bool.false_ne_true]at hm2 ⊢
      split at hm2
      . next g5=>exact⟨ρ5,ls3,hd4,x2.trans R2 y25,R5,L4.ext R3 x5,g5,hm2⟩
      . cases hm2
    | true=>
      rw[if_pos rfl]at hm2 ⊢
      obtain⟨⟨z,hd6⟩,e6,hm2⟩:=Option.bind_eq_some_iff.mp hm2
      obtain⟨⟨z7,hd7⟩,e7,hm2⟩:=Option.bind_eq_some_iff.mp hm2
      refine he ρ5 σ4 H5 hd4 ls3 _ z hd6 R5 (L4.ext R3 x5) e6 λ ρ6 H6 v6 x6 R6 r6=>?_
      have y26:=y25.trans R5 x6
      have hk6:ρ6[k]? = some Da:=by
        obtain⟨r,rfl,_⟩:=y26.pre
        rw[List.getElem?_append_left (List.getElem?_eq_some_iff.mp hk2).1];exact hk2
      unfold Bz at e7
      dsimp only at e7 hm2
      split at e7
      . next es q=>
        split at e7
        . next c7=>
          cases e7
          obtain⟨xs,e1,e2⟩:=R6.lst hk6 q
          obtain⟨R7,x7⟩:=R6.put hk6 (o:=.lst (es ++ [z])) (ho:=.lst (xs ++ [v6])) ⟨_,rfl,e2.app (.cons r6 .nil)⟩
          refine⟨xs,e1,by rw[e2.len];exact c7,?_⟩
          split at hm2
          . next g7=>exact⟨ρ6,ls3,_,(x2.trans R2 y26).trans R6 x7,R7,((L4.ext R3 x5).ext R5 x6).ext R6 x7,g7,hm2⟩
          . cases hm2
        . cases e7
      . cases e7
  . have e:i=ds.length:=by omega
    subst e
    rw[List.drop_length]at hm2
    unfold mIn at hm2
    cases hm2
    exact .inl ⟨Y2 rfl,hQ ρ2 H2 σ2 x2 R2 L2'⟩
theorem Qw{j:Nat}{ix:List Nat}{wi wi2:TI}{g g2:TG}{tf tf2:TT}{te:TE}{mi mi2:MI}{n n2:MG}{c c2:MT}{m:ME}(hi:RIt K wi mi)(hg:RGt K g n)(hf:RT K tf c)(hi2:RIt K wi2 mi2)(hg2:RGt K g2 n2)(hf2:RT K tf2 c2)(he:RE K te m):RE K (HA j ix wi g tf wi2 g2 tf2 te) (Eb j ix mi n c mi2 n2 c2 m):=by
  intro ρ σ H hd ls Q out hd' hR hL hm hQ
  obtain⟨⟨⟨ds,gd⟩,h1⟩,e1,hm⟩:=Option.bind_eq_some_iff.mp hm
  obtain⟨hd2,hm,e2⟩:=Option.map_eq_some_iff.mp hm
  cases e2
  dsimp only at hm
  refine hi ρ σ H hd ls _ ds gd h1 hR hL e1 λ ρ1 H1 J x1 R1 G1 Y=>?_
  intro Da hDa
  obtain⟨R1',x1'⟩:=R1.new (o:=.lst []) (ho:=.lst []) hDa ⟨[],rfl,.nil⟩
  have hk1:(ρ1 ++ [Da])[h1.length]? = some Da:=by rw[<- R1.len];simp
  refine⟨λ i mm σ2 H2=>mm=ds.length - i/\i <= ds.length/\∃ ρ2 ls2 h2,Ext (ρ1 ++ [Da]) (upd H1 Da (.lst [])) ρ2 H2/\RH K ρ2 H2 h2/\RL K ρ2 H2 ls2 σ2/\GOk h2 gd/\Ej h1.length n c mi2 n2 c2 m gd (ds.drop i) ls2 h2=some hd',
    ⟨ds.length,by simp,Nat.zero_le _,_,_,_,.refl,R1',K1 ((hL.ext hR x1).ext R1 x1'),UT G1 _,by simpa using hm⟩,?_⟩
  rintro i mm σ2 H2 ⟨rfl,hi',ρ2,ls2,h2,x2,R2,L2',G2,hm2⟩
  have x12:=x1'.trans R1' x2
  obtain⟨Y1,Y2⟩:=Y ρ2 H2 h2 x12 R2 G2 i
  have hk2:ρ2[h1.length]? = some Da:=by
    obtain⟨r,rfl,_⟩:=x2.pre
    rw[List.getElem?_append_left (List.getElem?_eq_some_iff.mp hk1).1];exact hk1
  by_cases hlt:i < ds.length
  . obtain⟨go,Y1⟩:=Y1 hlt
    have ed:ds.drop i=ds[i] :: ds.drop (i + 1):=List.drop_eq_getElem_cons hlt
    rw[ed]at hm2
    unfold Ej at hm2
    obtain⟨ls3,e3,hm2⟩:=Option.bind_eq_some_iff.mp hm2
    obtain⟨⟨bb,hd4⟩,e4,hm2⟩:=Option.bind_eq_some_iff.mp hm2
    refine .inr ⟨go,λ σ' H'=>∃ ρ2 ls2 h2,Ext (ρ1 ++ [Da]) (upd H1 Da (.lst [])) ρ2 H'/\RH K ρ2 H' h2/\RL K ρ2 H' ls2 σ'/\GOk h2 gd/\Ej h1.length n c mi2 n2 c2 m gd (ds.drop (i + 1)) ls2 h2=some hd',λ σ' H' z=>⟨ds.length - (i + 1),by omega,rfl,hlt,z⟩,λ x H3 y=>?_⟩
    obtain⟨ρ3,d3,x3,rfl,R3,e5,r3⟩:=Y1 x H3 y
    have e6:d3=ds[i]:=by
      have:ds[i]? = some ds[i]:=by simp[hlt]
      rw[this]at e5;exact(Option.some.inj e5).symm
    subst e6
    refine hg ρ3 σ2 H3 h2 ls2 ls3 _ x _ R3 (L2'.ext R2 x3) r3 e3 λ σ4 L4=>?_
    refine hf ρ3 σ4 H3 h2 ls3 _ bb hd4 R3 L4 e4 λ ρ5 H5 x5 R5=>?_
    have y25:=x3.trans R3 x5
    cases bb with
    | false=>
      rw[if_neg Bool.false_ne_true]at hm2 ⊢
      split at hm2
      . next g5=>exact⟨ρ5,ls3,hd4,x2.trans R2 y25,R5,L4.ext R3 x5,g5,hm2⟩
      . cases hm2
    | true=>
      rw[if_pos rfl]at hm2 ⊢
      obtain⟨⟨⟨ds6,g6⟩,hd6⟩,e6,hm2⟩:=Option.bind_eq_some_iff.mp hm2
      obtain⟨⟨ls7,hd7⟩,e7,hm2⟩:=Option.bind_eq_some_iff.mp hm2
      refine hi2 ρ5 σ4 H5 hd4 ls3 _ ds6 g6 hd6 R5 (L4.ext R3 x5) e6 λ ρ6 H6 J6 x6 R6 G6 Y6=>?_
      have y26:=y25.trans R5 x6
      have hk6:ρ6[h1.length]? = some Da:=by
        obtain⟨r,rfl,_⟩:=y26.pre
        rw[List.getElem?_append_left (List.getElem?_eq_some_iff.mp hk2).1];exact hk2
      refine Y8 hg2 hf2 he R6 ((L4.ext R3 x5).ext R5 x6) G6 Y6 hk6 e7 λ ρ7 H7 σ7 x7 R7 L7=>?_
      dsimp only at hm2
      split at hm2
      . next g7=>exact⟨ρ7,ls7,hd7,(x2.trans R2 y26).trans R6 x7,R7,L7,g7,hm2⟩
      . cases hm2
  . have e:i=ds.length:=by omega
    subst e
    rw[List.drop_length]at hm2
    unfold Ej at hm2
    cases hm2
    refine .inl ⟨Y2 rfl,hQ ρ2 H2 _ (x1.trans R1 x12) R2 ?_⟩
    simp only[RD]
    exact⟨Da,hk2,rfl⟩
end
theorem GR(K:PySem.W.Frag){X:Cx}{elt tg iter tg2 iter2:Expr}{ifs ifs2:List Expr}{scope:Scope}{pos:Pos}{loc fr:List Str}{ix:List Nat}{wi wi2:TI}{g g2:TG}{tf tf2:TT}{te:TE}{mi mi2:MI}{n n2:MG}{mf mf2:MT}{mm:ME}(hc:X.calm=true)(S:CSc X scope fr ix)(hi:QI K X tg iter wi mi)
    (hg:∀ s H ex,QG K (cCx X (loc ++ fr) scope s H ex) tg g n) (hf:∀ s H ex,QF K (cCx X (loc ++ fr) scope s H ex) ifs tf mf) (hi2:∀ s H ex,QI K (cCx X (loc ++ fr) scope s H ex) tg2 iter2 wi2 mi2) (hg2:∀ s H ex,QG K (cCx X (loc ++ fr) scope s H ex) tg2 g2 n2) (hf2:∀ s H ex,QF K (cCx X (loc ++ fr) scope s H ex) ifs2 tf2 mf2) (he:∀ s H ex,QE K (cCx X (loc ++ fr) scope s H ex) elt te mm)
    (hs:∀ x,foldedSetIterable iter X.env x=pure x:=by intro _;rfl) (hs2:∀ s H ex x,foldedSetIterable iter2 (cCx X (loc ++ fr) scope s H ex).env x=pure x:=by intro _ _ _ _;rfl) :
    QE K X (.ListComp elt [⟨tg,iter,ifs,0⟩,⟨tg2,iter2,ifs2,0⟩] scope pos) (HA loc.length ix wi g tf wi2 g2 tf2 te) (Eb loc.length ix mi n mf mi2 n2 mf2 mm):=
  ⟨Rk hc S hi.p (λ s H ex=>(hg s H ex).p) (λ s H ex=>(hf s H ex).p) (λ s H ex=>(hi2 s H ex).p) (λ s H ex=>(hg2 s H ex).p) (λ s H ex=>(hf2 s H ex).p) (λ s H ex=>(he s H ex).p) hs hs2,
    Qw hi.r (hg X.s₀ X.H₀ []).r (hf X.s₀ X.H₀ []).r (hi2 X.s₀ X.H₀ []).r (hg2 X.s₀ X.H₀ []).r (hf2 X.s₀ X.H₀ []).r (he X.s₀ X.H₀ []).r⟩
end L2
namespace L2
open PySem PySem.Spec PyProof.Rows
open Classical in
noncomputable def Ju(ma mb:ME):MA:=λ ls hd=>(ma ls hd).bind λ p=>(mb ls p.2).bind λ q=>match p.1,q.1 with
  | .mu i,.mu j=>match q.2[i]?,q.2[j]? with
    | some (.lst xs),some (.lst ys)=>if C0 (xs.length + ys.length)then some (xs ++ ys,q.2)else none
    | _,_=>none
  | _,_=>none
theorem VD{K:PySem.W.Frag}{ta tb:TE}{ma mb:ME}(ha:RE K ta ma)(hb:RE K tb mb):RN K (tOp RO ta tb) (Ju ma mb):=by
  intro ρ σ H hd ls Q d hd' hR hL hm hQ
  obtain⟨⟨d1,h1⟩,e1,hm⟩:=Option.bind_eq_some_iff.mp hm
  obtain⟨⟨d2,h2⟩,e2,hm⟩:=Option.bind_eq_some_iff.mp hm
  dsimp only at hm
  split at hm
  . next i j=>
    split at hm
    . next xs ys q1 q2=>
      split at hm
      . next c=>
        cases hm
        refine ha ρ σ H hd ls _ _ h1 hR hL e1 λ ρ1 H1 v x1 R1 r1=>?_
        refine hb ρ1 σ H1 h1 ls _ _ _ R1 (hL.ext hR x1) e2 λ ρ2 H2 u x2 R2 r2=>?_
        have r1':=r1.ext R1 x2
        simp only[RD]at r1' r2
        obtain⟨a,ka,rfl⟩:=r1'
        obtain⟨b,kb,rfl⟩:=r2
        obtain⟨vs,f1,f2⟩:=R2.lst ka q1
        obtain⟨us,f3,f4⟩:=R2.lst kb q2
        refine⟨a,b,vs,us,rfl,rfl,f1,f3,by rw[f2.len,f4.len];exact c,λ p hp=>?_⟩
        obtain⟨R3,x3⟩:=R2.hid (ho:=.lst (vs ++ us)) hp
        have x12:=x1.trans R1 x2
        exact hQ ρ2 _ p _ (x12.trans R2 x3) R3 (x12.none hR hp R2) (R2.out hp) Am ((f2.app f4).ext R2 x3)
      . cases hm
    . cases hm
  . cases hm
theorem Ot(K:PySem.W.Frag){X:Cx}{a b:Expr}{pos:Pos}{ta tb:TE}{ma mb:ME}(ha:QE K X a ta ma)(hb:QE K X b tb mb):QN K X (.BinOp a .Add b pos) (tOp RO ta tb) (Ju ma mb):=⟨SW W3 ha.p hb.p,VD ha.r hb.r⟩
@[simp] theorem S6(j:Nat)(ix:List Nat)(mi mi2:MI)(n n2:MG)(c c2:MT)(m:ME)(ls:Ls)(hd:Hd):Eb j ix mi n c mi2 n2 c2 m ls hd=(mi ls hd).bind λ p=>(Ej p.2.length n c mi2 n2 c2 m p.1.2 p.1.1 (Dh j ix ls) (p.2 ++ [.lst []])).map λ h=>(.mu p.2.length,h):=rfl
end L2
namespace L2
open PySem PySem.Spec PyProof.Rows PySem.W
section
variable(r:Nat->Int)(n:Nat)
noncomputable def PWp{α:Type}:KasT α->(α->Prop)->Prop
  | .ret a,Q=>Q a
  | .ask i j k,Q=>i < n/\j < n/\PWp (k (decide (r i < r j))) Q
noncomputable def kv(p:Array Nat)(i:Nat):Int:=r (p.getD i 0)
noncomputable def STo(p:Array Nat)(m:Nat):Prop:=∀ i j,i <= j->j < m->kv r p i <= kv r p j
noncomputable def DTo(p:Array Nat)(m:Nat):Prop:=∀ i j,i <= j->j < m->kv r p j <= kv r p i
noncomputable def EqL(p:Array Nat)(m q:Nat):Prop:=∀ k,m - (q + 1) <= k->k < m->kv r p k=kv r p (m - 1)
noncomputable def PAr(p:Array Nat):Prop:=p.Perm (List.range n).toArray
end
section
variable{r:Nat->Int}{n:Nat}
theorem PWp.bind{α β:Type}{f:α->KasT β}{Q:β->Prop}:∀ {t:KasT α},PWp r n t (λ a=>PWp r n (f a) Q)->PWp r n (t.bind f) Q
  | .ret _,h=>h
  | .ask i j k,h=>⟨h.1,h.2.1,PWp.bind h.2.2⟩
theorem PWp.mono{α:Type}{Q Q':α->Prop}:∀ {t:KasT α},PWp r n t Q->(∀ a,Q a->Q' a)->PWp r n t Q'
  | .ret _,h,q=>q _ h
  | .ask i j k,h,q=>⟨h.1,h.2.1,PWp.mono h.2.2 q⟩
theorem PWp.wp{α:Type}{cmp:Nat->Nat->(Bool->Shared->Prop)->Shared->Prop}{P:Shared->Prop}{Q:α->Shared->Prop}(hc:∀ i j C s,i < n->j < n->P s->(∀ s',P s'->C (decide (r i < r j)) s')->cmp i j C s):∀ {t:KasT α} {s:Shared},PWp r n t (λ a=>∀ s,P s->Q a s)->P s->t.kasWp cmp Q s
  | .ret _,s,h,p=>h s p
  | .ask i j k,s,h,p=>hc i j _ s h.1 h.2.1 p λ s' p'=>PWp.wp hc h.2.2 p'
theorem PAr.size{p:Array Nat}(h:PAr n p):p.size=n:=by have:=h.size_eq;simpa using this
theorem PAr.lt{p:Array Nat}(h:PAr n p){i:Nat}(hi:i < n):p.getD i 0 < n:=by
  have hs:=h.size
  have hi':i < p.size:=by omega
  have:p[i] ∈ (List.range n).toArray:=h.mem_iff.mp (Array.getElem_mem hi')
  have e:p.getD i 0=p[i]:=by simp[Array.getD,hi']
  rw[e]
  simpa using this
theorem JQ{p:Array Nat}{i j:Nat}(hj:j <= p.size)(k:Nat):kv r (kas_rev p i j) k=if i <= k/\k < j then kv r p (i + j - 1 - k)else kv r p k:=by
  unfold kv kas_rev
  simp only[Array.getD_eq_getD_getElem?]
  rw[getElem?_mirror_all hj]
  split <;> rfl
theorem PAr.rev{p:Array Nat}(h:PAr n p)(i j:Nat):PAr n (kas_rev p i j):=(mirror_perm _ _ _ _).trans h
theorem N8{p:Array Nat}{m q:Nat}(hj:m <= p.size)(hq:q + 1 <= m)(h:EqL r p m q)(k:Nat):kv r (kas_rev p (m - (q + 1)) m) k=kv r p k:=by
  rw[JQ hj]
  split
  . next c=>rw[h _ (by omega) (by omega),h k c.1 c.2]
  . rfl
theorem MW{p:Array Nat}(pa:PAr n p):∀ (f m:Nat),1 <= m->m + f <= n->STo r p m->PWp r n (kas_asc p f m) λ m'=>m <= m'/\m' <= m + f/\STo r p m'/\(m' < m + f->kv r p m' < kv r p (m' - 1))
  | 0,m,h1,hn,hs=>⟨Nat.le_refl _,Nat.le_refl _,hs,λ h=>by omega⟩
  | f + 1,m,h1,hn,hs=>by
    refine⟨pa.lt (by omega),pa.lt (by omega),?_⟩
    by_cases c:r (p.getD m 0) < r (p.getD (m - 1) 0)
    . rw[decide_eq_true c]
      exact⟨Nat.le_refl _,by omega,hs,λ _=>c⟩
    . rw[decide_eq_false c]
      refine(MW pa f (m + 1) (by omega) (by omega) ?_).mono λ m' h=>⟨by omega,by omega,h.2.2.1,λ z=>h.2.2.2 (by omega)⟩
      intro i j hij hj
      by_cases e:j < m
      . exact hs i j hij e
      . have:j=m:=by omega
        subst this
        by_cases e2:i=j
        . subst e2;exact Int.le_refl _
        . have:=hs i (j - 1) (by omega) (by omega)
          have:kv r p (j - 1) <= kv r p j:=by unfold kv;omega
          omega
theorem Ie{p:Array Nat}{m:Nat}(h1:1 <= m)(h:DTo r p m)(c:kv r p m <= kv r p (m - 1)):DTo r p (m + 1):=by
  intro i j hij hj
  by_cases e:j < m
  . exact h i j hij e
  . have:j=m:=by omega
    subst this
    by_cases e2:i=j
    . subst e2;exact Int.le_refl _
    . have:=h i (j - 1) (by omega) (by omega)
      omega
theorem IB:∀ (f:Nat) (p:Array Nat) (m q:Nat),PAr n p->1 <= m->q + 1 <= m->m + f <= n->DTo r p m->EqL r p m q ->
    PWp r n (kas_desc f p m q) λ z=>PAr n z.1/\m <= z.2.1/\z.2.1 <= m + f/\DTo r z.1 z.2.1/\EqL r z.1 z.2.1 z.2.2/\z.2.2 + 1 <= z.2.1
  | 0,p,m,q,pa,h1,hq,hn,hd,he=>⟨pa,Nat.le_refl _,Nat.le_refl _,hd,he,hq⟩
  | f + 1,p,m,q,pa,h1,hq,hn,hd,he=>by
    refine⟨pa.lt (by omega),pa.lt (by omega),?_⟩
    have sz:=pa.size
    by_cases c:r (p.getD m 0) < r (p.getD (m - 1) 0)
    . rw[decide_eq_true c]
      have c':kv r p m <= kv r p (m - 1):=by unfold kv;omega
      dsimp only
      rw[if_pos rfl]
      by_cases hq0:q > 0
      . rw[if_pos hq0]
        have sm:=N8 (r:=r) (p:=p) (m:=m) (q:=q) (by omega) hq he
        refine(IB f _ (m + 1) 0 (pa.rev _ _) (by omega) (by omega) (by omega) ?_ ?_).mono λ z h=>⟨h.1,by omega,by omega,h.2.2.2⟩
        . have:=Ie h1 hd c'
          intro i j a b
          rw[sm,sm];exact this i j a b
        . intro k a b
          have:k=m:=by omega
          subst this;rfl
      . rw[if_neg hq0]
        refine(IB f p (m + 1) 0 pa (by omega) (by omega) (by omega) (Ie h1 hd c') ?_).mono λ z h=>⟨h.1,by omega,by omega,h.2.2.2⟩
        intro k a b
        have:k=m:=by omega
        subst this;rfl
    . rw[decide_eq_false c];dsimp only;rw[if_neg Bool.false_ne_true]
      refine⟨pa.lt (by omega),pa.lt (by omega),?_⟩
      by_cases d:r (p.getD (m - 1) 0) < r (p.getD m 0)
      . rw[decide_eq_true d]
        exact⟨pa,Nat.le_refl _,by show m <= m + (f + 1);omega,hd,he,hq⟩
      . rw[decide_eq_false d];dsimp only;rw[if_neg Bool.false_ne_true]
        have e:kv r p m=kv r p (m - 1):=by unfold kv;omega
        refine(IB f p (m + 1) (q + 1) pa (by omega) (by omega) (by omega) (Ie h1 hd (by omega)) ?_).mono λ z h=>⟨h.1,by omega,by omega,h.2.2.2⟩
        intro k a b
        by_cases e2:k=m
        . subst e2;rfl
        . have:=he k (by omega) (by omega)
          have e3:m + 1 - 1=m:=rfl
          rw[e3];omega
noncomputable def Run(z:Nat × Array Nat)(r:Nat->Int)(n:Nat):Prop:=PAr n z.2/\1 <= z.1/\z.1 <= n/\STo r z.2 z.1
theorem Kz{p:Array Nat}{m:Nat}(pa:PAr n p)(h1:1 <= m)(hn:m <= n)(hd:DTo r p m):PWp r n (kas_tail3 m n p) λ z=>Run z r n:=by
  have sz:=pa.size
  have st:STo r (kas_rev p 0 m) m:=by
    intro i j a b
    rw[JQ (by omega),JQ (by omega),if_pos ⟨by omega,by omega⟩,if_pos ⟨by omega,by omega⟩]
    exact hd _ _ (by omega) (by omega)
  refine PWp.bind ((MW (pa.rev 0 m) (n - m) m h1 (by omega) st).mono λ m' h=>?_)
  exact⟨pa.rev 0 m,by show 1 <= m';omega,by show m' <= n;omega,h.2.2.1⟩
theorem II{p:Array Nat}{m:Nat}(pa:PAr n p)(hn:m + 1 <= n)(hd:DTo r p (m + 1)):PWp r n (kas_descPart m n p) λ z=>Run z r n:=by
  refine PWp.bind ((IB (n - (m + 1)) p (m + 1) 0 pa (by omega) (by omega) (by omega) hd ?_).mono λ z h=>?_)
  . intro k a b
    have:k=m:=by omega
    subst this;rfl
  . obtain⟨a,b,c,d,e,g⟩:=h
    have sz:=a.size
    by_cases hq:z.2.2 > 0
    . rw[if_pos hq]
      have sm:=N8 (r:=r) (p:=z.1) (m:=z.2.1) (q:=z.2.2) (by omega) g e
      exact Kz (a.rev _ _) (by omega) (by omega) λ i j x y=>by rw[sm,sm];exact d i j x y
    . rw[if_neg hq]
      exact Kz a (by omega) (by omega) d
theorem S8(h1:1 <= n):PWp r n (kas_count n (List.toArray (List.range n))) λ z=>Run z r n:=by
  have pa:PAr n (List.range n).toArray:=.refl _
  have sz:=pa.size
  refine PWp.bind ((MW pa (n - 1) 1 (by omega) (by omega) λ i j a b=>?_).mono λ m h=>?_)
  . have:i=j:=by omega
    subst this;exact Int.le_refl _
  . obtain⟨a,b,c,d⟩:=h
    by_cases e:(m == n)=true
    . rw[if_pos e]
      have:m=n:=by simpa using e
      exact⟨pa,by show 1 <= m;omega,by show m <= n;omega,c⟩
    . rw[if_neg e]
      have hne:m ≠ n:=by simpa using e
      have dd:=d (by omega)
      by_cases h2:m > 1
      . rw[if_pos h2]
        refine⟨pa.lt (by omega),pa.lt (by omega),?_⟩
        by_cases g:r ((List.range n).toArray.getD 0 0) < r ((List.range n).toArray.getD (m - 1) 0)
        . rw[decide_eq_true g]
          exact⟨pa,by show 1 <= m;omega,by show m <= n;omega,c⟩
        . rw[decide_eq_false g];dsimp only;rw[if_neg Bool.false_ne_true]
          have g':kv r (List.range n).toArray (m - 1) <= kv r (List.range n).toArray 0:=by unfold kv;omega
          have eq:∀ k,k < m->kv r (List.range n).toArray k=kv r (List.range n).toArray 0:=λ k hk=>by
            have x1:=c 0 k (by omega) hk
            have x2:=c k (m - 1) (by omega) (by omega)
            omega
          have rv:∀ k,kv r (kas_rev (List.range n).toArray 0 m) k=kv r (List.range n).toArray k:=λ k=>by
            rw[JQ (by omega)]
            split
            . next z=>rw[eq _ (by omega),eq k z.2]
            . rfl
          refine II (pa.rev 0 m) (by omega) λ i j x y=>?_
          rw[rv,rv]
          by_cases z:j < m
          . rw[eq i (by omega),eq j z];exact Int.le_refl _
          . have:j=m:=by omega
            subst this
            by_cases z2:i=j
            . subst z2;exact Int.le_refl _
            . rw[eq i (by omega)]
              have:=eq (j - 1) (by omega)
              omega
      . rw[if_neg h2]
        have:m=1:=by omega
        subst this
        refine II pa (by omega) λ i j x y=>?_
        by_cases z:i=j
        . subst z;exact Int.le_refl _
        . have:i=0:=by omega
          have:j=1:=by omega
          subst i j
          have:kv r (List.range n).toArray 1 < kv r (List.range n).toArray 0:=dd
          omega
theorem IV{p:Array Nat}{k:Nat}(pa:PAr n p)(hk:k < n)(hs:STo r p k):∀ (f l q:Nat),l <= q->q <= k->q - l <= f->(∀ i,i < l->kv r p i <= kv r p k)->(∀ i,q <= i->i < k->kv r p k < kv r p i) ->
    PWp r n (kas_place p k f l q) λ m=>m <= k/\(∀ i,i < m->kv r p i <= kv r p k)/\∀ i,m <= i->i < k->kv r p k < kv r p i
  | 0,l,q,a,b,c,d,e=>⟨by omega,d,λ i x y=>e i (by omega) y⟩
  | f + 1,l,q,a,b,c,d,e=>by
    unfold kas_place
    by_cases h:l >= q
    . rw[if_pos h]
      exact⟨by omega,d,λ i x y=>e i (by omega) y⟩
    . rw[if_neg h]
      refine⟨pa.lt (by omega),pa.lt (by omega),?_⟩
      by_cases g:r (p.getD k 0) < r (p.getD ((l + q) / 2) 0)
      . rw[decide_eq_true g];dsimp only;rw[if_pos rfl]
        have g':kv r p k < kv r p ((l + q) / 2):=g
        refine IV pa hk hs f l ((l + q) / 2) (by omega) (by omega) (by omega) d λ i x y=>?_
        have:=hs ((l + q) / 2) i x y
        omega
      . rw[decide_eq_false g];dsimp only;rw[if_neg Bool.false_ne_true]
        have g':kv r p ((l + q) / 2) <= kv r p k:=by unfold kv;omega
        refine IV pa hk hs f ((l + q) / 2 + 1) q (by omega) (by omega) (by omega) (λ i x=>?_) e
        have:=hs i ((l + q) / 2) (by omega) (by omega)
        omega
theorem KI{p:Array Nat}{k d:Nat}(hk:k < p.size)(hd:d <= k)(i:Nat):kv r (bubble p k d) i=if i=k - d then kv r p k else if k - d < i/\i <= k then kv r p (i - 1)else kv r p i:=by
  unfold kv
  simp only[Array.getD_eq_getD_getElem?]
  rw[getElem?_bubble hk d hd]
  split
  . rfl
  . split <;> rfl
theorem Q0:∀ (f:Nat) (p:Array Nat) (k:Nat),PAr n p->k + f=n->STo r p k->PWp r n (kas_bin f p k) λ z=>PAr n z/\STo r z n
  | 0,p,k,pa,e,hs=>⟨pa,by
                                  have:k=n:=by omega
                                  subst this;exact hs⟩
  | f + 1,p,k,pa,e,hs=>by
    have sz:=pa.size
    refine PWp.bind ((IV pa (by omega) hs k 0 k (by omega) (by omega) (by omega) (λ i h=>by omega) (λ i a b=>by omega)).mono λ m h=>?_)
    obtain⟨a,b,c⟩:=h
    refine Q0 f _ (k + 1) ((bubble_perm _ _ _).trans pa) (by omega) λ i j x y=>?_
    rw[KI (by omega) (by omega),KI (by omega) (by omega)]
    have ek:k - (k - m)=m:=by omega
    rw[ek]
    repeat' split
    . exact Int.le_refl _
    . exact Int.le_of_lt (c _ (by omega) (by omega))
    . omega
    . exact b _ (by omega)
    . exact hs _ _ (by omega) (by omega)
    . omega
    . exact b _ (by omega)
    . exact hs _ _ (by omega) (by omega)
    . exact hs _ _ (by omega) (by omega)
theorem T5(h1:1 <= n):PWp r n (kas_sort n) λ p=>PAr n p/\STo r p n:=by
  refine PWp.bind ((S8 h1).mono λ z h=>?_)
  obtain⟨a,b,c,d⟩:=h
  by_cases e:z.1 < n
  . rw[if_pos e]
    have:max z.1 1=z.1:=by omega
    rw[this]
    exact Q0 _ _ _ a (by omega) d
  . rw[if_neg e]
    have:z.1=n:=by omega
    exact⟨a,this ▸ d⟩
end
end L2
namespace L2
open PySem PySem.Spec PyProof.Rows PySem.W
noncomputable def PairAt(h:Heap)(v:Value)(p:Int × Int):Prop:=∃ (x:Addr) (o:Obj) (t u:Tok) (k:Nat),v=.ref x/\h.get? x=some o/\o.cls=.type "tuple"/\o.data=.seq #[.int p.1 t,.int p.2 u] k
noncomputable def Co(p:Int × Int):Int:=p.1 * 4000000000 + p.2
noncomputable def pok(p:Int × Int):Prop:=-1000000000 <= p.1/\p.1 <= 1000000000/\-1000000000 <= p.2/\p.2 <= 1000000000
section
variable{prog:Program}{w:World}{A:Around}{E:Value->Shared->Prop}{s:Shared}
theorem UK{x y:Value}{p q:Int × Int}{C:Bool->Shared->Prop}(hx:PairAt s.heap x p)(hy:PairAt s.heap y q)(op:pok p)(oq:pok q)(h:C (decide (Co p < Co q)) s) :
    wpAny (model prog w) A (keyLt' (tuples' true) x y) C E s:=by
  obtain⟨a,o,t,u,k,rfl,ho,hc,hd⟩:=hx
  obtain⟨a2,o2,t2,u2,k2,rfl,ho2,hc2,hd2⟩:=hy
  obtain⟨p1,p2⟩:=p
  obtain⟨q1,q2⟩:=q
  unfold pok at op oq
  unfold Co at h
  dsimp only at op oq h
  refine kat_lt ho hd ho2 hd2 ?_
  refine kat_cons (wpAny_eqBool_int ?_)
  by_cases e1:p1=q1
  . have b1:(p1 == q1)=true:=by simp[e1]
    rw[b1]
    refine kat_yes (kat_cons (wpAny_eqBool_int ?_))
    by_cases e2:p2=q2
    . have b2:(p2 == q2)=true:=by simp[e2]
      rw[b2]
      refine kat_yes (kat_nil ?_)
      have:decide (p1 * 4000000000 + p2 < q1 * 4000000000 + q2)=false:=decide_eq_false (by omega)
      rw[this]at h
      exact h
    . have b2:(p2 == q2)=false:=by simp[e2]
      rw[b2]
      refine kat_no (kat_one _ _ (lt_int ?_))
      have:decide (p1 * 4000000000 + p2 < q1 * 4000000000 + q2)=decide (p2 < q2):=decide_eq_decide.mpr (by omega)
      rw[this]at h
      exact h
  . have b1:(p1 == q1)=false:=by simp[e1]
    rw[b1]
    refine kat_no (oneLt_int ?_)
    have:decide (p1 * 4000000000 + p2 < q1 * 4000000000 + q2)=decide (p1 < q1):=decide_eq_decide.mpr (by omega)
    rw[this]at h
    exact h
theorem Mm{h:Heap}:∀ {vs:List Value} {ps:List (Int × Int)},vs.length=ps.length->(∀ (i:Nat) (v:Value) (p:Int × Int),vs[i]? = some v->ps[i]? = some p->PairAt h v p)->∃ fs,KatTups h vs fs/\fs.length=vs.length/\∀ f ∈ fs,∃ i t,f=.int i t
  | [],[],_,_=>⟨[],.nil,rfl,λ _ z=>by cases z⟩
  | v :: vs,p :: ps,hl,hp=>by
    obtain⟨fs,a,b,c⟩:=Mm (vs:=vs) (ps:=ps) (by simpa using hl) λ i v q e1 e2=>hp (i + 1) v q (by simpa using e1) (by simpa using e2)
    obtain⟨x,o,t,u,k,rfl,ho,hc,hd⟩:=hp 0 v p rfl rfl
    exact⟨.int p.1 t :: fs,.cons ho hc hd rfl a,by simp[b],λ f hf=>by
      rcases List.mem_cons.mp hf with rfl|hf
      . exact⟨_,_,rfl⟩
      . exact c f hf⟩
noncomputable def FE(vs:List Value)(ps:List (Int × Int))(out:List Value):Prop:=∃ zs:List (Value × (Int × Int)),zs.Perm (vs.zip ps)/\(zs.map λ z=>Co z.2).Pairwise (· <= ·)/\out=zs.map (·.1)
theorem Oa{vs:List Value}{ps:List (Int × Int)}(hl:vs.length=ps.length){p:Array Nat}(pa:PAr vs.length p)(hs:STo (λ i=>Co (ps.getD i (0,0))) p vs.length):FE vs ps (p.toList.map λ i=>vs.getD i Value.none):=by
  have sz:=pa.size
  refine⟨p.toList.map λ i=>(vs.getD i Value.none,ps.getD i (0,0)),?_,?_,by rw[List.map_map];rfl⟩
  . have e:vs.zip ps=(List.range vs.length).map λ i=>(vs.getD i Value.none,ps.getD i (0,0)):=by
      refine List.ext_getElem? λ i=>?_
      by_cases hi:i < vs.length
      . have hi2:i < ps.length:=by omega
        rw[(List.getElem?_zip_eq_some (z:=(vs[i],ps[i]))).mpr ⟨by simp[hi],by simp[hi2]⟩]
        simp[hi,hi2]
      . rw[List.getElem?_eq_none (by simp;omega),List.getElem?_eq_none (by simp;omega)]
    rw[e]
    have:=Array.perm_iff_toList_perm.mp pa
    simpa using this.map _
  . rw[List.map_map,List.pairwise_iff_getElem]
    intro i j hi hj hij
    simp only[List.length_map,Array.length_toList]at hi hj
    have:=hs i j (by omega) (by omega)
    unfold kv at this
    simpa [Array.getD,hi,hj]using this
theorem NZ{a:Addr}{vs:List Value}{ps:List (Int × Int)}{n:Nat}{P:PySem.Fin->Shared->Prop}(ho:s.heap.get? a=some (seqObj "list" vs.toArray n))(hl:vs.length=ps.length)(h64:vs.length < 64)(hok:∀ p ∈ ps,pok p)
    (hp:∀ (i:Nat) (v:Value) (p:Int × Int),vs[i]? = some v->ps[i]? = some p->PairAt (s.heap.update a (Obj.mapSeq λ _=>#[])) v p)
    (h:∀ out:List Value,FE vs ps out->P (.done (.ret .none)) { s with heap:=sortedHeap s.heap a vs out.toArray }) :
    wpAny (model prog w) A (Builtin.«list.sort» ⟨[.ref a],[]⟩) P E s:=by
  have ha:=Heap.lt_size ho
  have line:vs.length <= sizeLine:=by rw[sizeLine_eq];omega
  obtain⟨e1,ho1⟩:∃ e1,(s.heap.update a (Obj.mapSeq λ _=>#[])).get? a=some (seqObj "list" #[] e1):=⟨_,get?_update_seq ho _⟩
  rw[list_sort_plain]
  refine wpAny_bind (listItems_at ho rfl (wpAny_bind (listUpdate_at ho rfl (wpAny_bind (seqEpoch_at ho1 rfl (wpAny_bind (wpAny_newTuple (wpAny_bind (wpAny_newList (wpAny_holding ?_) (Nat.zero_le _))) line)))) (by rw[List.size_toArray];exact line) (Nat.zero_le _))))
  have grow:∀ b o,(s.heap.update a (Obj.mapSeq λ _=>#[])).get? b=some o->(((s.heap.update a (Obj.mapSeq λ _=>#[])).push (seqObj "tuple" vs.toArray 0)).push (seqObj "list" #[] 0)).get? b=some o:=λ b o e=>Heap.get?_push_of_some _ (Heap.get?_push_of_some _ e)
  have ho6:=grow _ _ ho1
  generalize h6:((s.heap.update a (Obj.mapSeq λ _=>#[])).push (seqObj "tuple" vs.toArray 0)).push (seqObj "list" #[] 0)=hp6 at *
  have done:∀ out:List Value,FE vs ps out->P (.done (.ret .none)) { s with heap:=hp6.update a (Obj.mapSeq λ _=>out.toArray) }:=λ out z=>by
    have:=h out z
    unfold sortedHeap at this
    rw[h6]at this
    exact this
  show wpAny (model prog w) A _ P E { s with heap:=hp6 }
  dsimp only
  have pairs6:∀ (i:Nat) (v:Value) (p:Int × Int),vs[i]? = some v->ps[i]? = some p->PairAt hp6 v p:=λ i v p x y=>by
    obtain⟨x',o,t,u,k,e,q,c,d⟩:=hp i v p x y
    exact⟨x',o,t,u,k,e,grow _ _ q,c,d⟩
  by_cases h2:vs.toArray.size < 2
  . rw[if_pos h2,if_pos h2]
    refine wpAny_bind (wpAny_pure ?_)
    rw[StateT.run_pure]
    refine wpAny_bind (wpAny_pure ?_)
    dsimp only
    have hout:(arrOf (SortSt.mk' general' (vs.toArray.zip vs.toArray) #[] 7 none)).map (·.2)=vs.toArray:=by
      show(vs.toArray.zip vs.toArray).map (·.2)=vs.toArray
      apply Array.toList_inj.mp
      simp only[Array.toList_map,Array.toList_zip]
      exact List.map_snd_zip (Nat.le_refl _)
    rw[hout]
    refine wpAny_bind (seqEpoch_at ho6 rfl (wpAny_bind (listUpdate_at ho6 rfl ?_ (Nat.zero_le _) (by rw[List.size_toArray];omega))))
    simp only[bne_self_eq_false,Bool.false_eq_true,if_false]
    refine wpAny_pure (done vs ⟨vs.zip ps,.refl _,?_,?_⟩)
    . have hz:(vs.zip ps).length < 2:=by simp at h2 ⊢;omega
      cases hh:vs.zip ps with
      | nil=>exact .nil
      | cons z r=>
        cases r with
        | nil=>exact List.pairwise_singleton _ _
        | cons y t=>rw[hh]at hz;exact absurd hz (by simp)
    . rw[List.map_fst_zip (by omega)]
  . rw[if_neg h2,if_neg h2]
    have h2':2 <= vs.length:=by simp at h2;omega
    obtain⟨fs,t1,t2,t3⟩:=Mm hl pairs6
    have tT:∀ f ∈ fs,Looks (model prog w) hp6 (typeOf f) (Value.type "int"):=λ f hf=>by
      obtain⟨i,t,rfl⟩:=t3 f hf
      exact .of_pure rfl
    refine wpAny_bind (kat_kind (s:={ s with heap:=hp6 }) t1 (by omega) tT rfl ?_)
    have est:SortSt.mk' (tuples' true) (vs.toArray.zip vs.toArray) #[] 7 none=kas_st (tuples' true) (pairsOf vs) (List.toArray (List.range vs.length)):=by
      unfold kas_st
      rw[<- pairsOf_size vs,kas_range]
      rfl
    have ask:(kas_sort vs.length).kasWp (kas_cmp prog w A (tuples' true) (pairsOf vs)) (λ p s'=>s'={ s with heap:=hp6 }/\FE vs ps (p.toList.map λ i=>vs.getD i Value.none)) { s with heap:=hp6 }:=by
      rw[<- kas_ask_eq]
      refine PWp.wp (n:=vs.length) (r:=λ i=>Co (ps.getD i (0,0))) (P:=λ s'=>s'={ s with heap:=hp6 }) (λ i j C s' hi hj e hC=>?_) ((T5 (by omega)).mono λ p z s' e=>⟨e,Oa hl z.1 z.2⟩) rfl
      subst e
      have pi:ps[i]? = some (ps.getD i (0,0)):=by simp[show i < ps.length by omega]
      have pj:ps[j]? = some (ps.getD j (0,0)):=by simp[show j < ps.length by omega]
      have vi:vs[i]? = some (vs.getD i Value.none):=by simp[hi]
      have vj:vs[j]? = some (vs.getD j Value.none):=by simp[hj]
      exact UK (s:={ s with heap:=hp6 }) (pairs6 i _ _ vi pi) (pairs6 j _ _ vj pj) (hok _ (List.mem_of_getElem? pi)) (hok _ (List.mem_of_getElem? pj)) (hC _ rfl)
    have run:=kas_runs (E:=E) (Q:=λ _ st' s'=>∃ p:Array Nat,p.size=vs.length/\arrOf st'=p.map (kas_item (pairsOf vs))/\failedOf st'=none/\s'={ s with heap:=hp6 }/\FE vs ps (p.toList.map λ i=>vs.getD i Value.none)) h2' h64 (λ p st' s' x1 x2 x3 x4=>⟨p,x1,x2,x3,x4⟩) ask
    rw[<- est]at run
    refine wpAny_bind (wpAny_mono run ?_ λ _ _ e=>e)
    rintro⟨⟨⟩,st'⟩ s' ⟨p,hsz,har,hf,rfl,so⟩
    dsimp only
    have hout:(arrOf st').map (·.2)=(p.toList.map λ i=>vs.getD i Value.none).toArray:=by
      rw[har]
      apply Array.toList_inj.mp
      simp only[Array.toList_map,List.map_map]
      exact List.map_congr_left λ i _=>congrArg Prod.snd (kas_item_eq vs i)
    rw[hout]
    refine wpAny_bind (seqEpoch_at ho6 rfl (wpAny_bind (listUpdate_at ho6 rfl ?_ (Nat.zero_le _) (by simp[hsz];omega))))
    rw[hf]
    simp only[bne_self_eq_false,Bool.false_eq_true,if_false]
    exact wpAny_pure (done _ so)
end
end L2
namespace L2
open PySem PySem.Spec PyProof.Rows PySem.W
theorem PairAt.keep{h h':Heap}{v:Value}{p:Int × Int}(k:∀ b o,h.get? b=some o->h'.get? b=some o)(q:PairAt h v p):PairAt h' v p:=by
  obtain⟨x,o,t,u,n,e,ho,c,d⟩:=q
  exact⟨x,o,t,u,n,e,k _ _ ho,c,d⟩
section
variable{prog:Program}{w:World}{A:Around}{E:Value->Shared->Prop}{s:Shared}
theorem LA{l:Addr}{vs:List Value}{ps:List (Int × Int)}{Q:Value->Shared->Prop}(hl:s.heap.IsList l vs.toArray)(hlen:vs.length=ps.length)(h64:vs.length < 64)(hok:∀ p ∈ ps,pok p)
    (hp:∀ (i:Nat) (v:Value) (p:Int × Int),vs[i]? = some v->ps[i]? = some p->PairAt s.heap v p)
    (h:∀ out:List Value,FE vs ps out->Q (.ref (s.heap.objs.size + 1)) { s with heap:=sortedAll s.heap vs out.toArray }) :
    wpAny (model prog w) A (call (.builtin "sorted") [.ref l]) Q E s:=by
  have line:vs.length <= sizeLine:=by rw[sizeLine_eq];omega
  refine Calls.call_function_entry kind_sorted plain_sorted entry_sorted (args_sorted1 _) ?_
  unfold Builtin.«sorted»
  refine wpAny_bind (m:=checkCount "sorted" 1 1 _) (wpAny_pure (wpAny_bind (collect_list hl (wpAny_bind (wpAny_newList ?_ line)) line)))
  have sz:((s.heap.push (seqObj "list" #[] 0)).update s.heap.objs.size (Obj.mapSeq (· ++ vs.toArray))).objs.size=s.heap.objs.size + 1:=by rw[Heap.size_update,size_push']
  have at1:(((s.heap.push (seqObj "list" #[] 0)).update s.heap.objs.size (Obj.mapSeq (· ++ vs.toArray))).push (seqObj "list" vs.toArray 0)).get? (s.heap.objs.size + 1)=some (seqObj "list" vs.toArray 0):=by
    have:=Heap.get?_push_size ((s.heap.push (seqObj "list" #[] 0)).update s.heap.objs.size (Obj.mapSeq (· ++ vs.toArray))) (o:=seqObj "list" vs.toArray 0) rfl
    rwa [sz]at this
  have old:∀ b o,s.heap.get? b=some o->((((s.heap.push (seqObj "list" #[] 0)).update s.heap.objs.size (Obj.mapSeq (· ++ vs.toArray))).push (seqObj "list" vs.toArray 0)).update (s.heap.objs.size + 1) (Obj.mapSeq λ _=>#[])).get? b=some o:=λ b o e=>by
    have lt:=Heap.lt_size e
    rw[Heap.get?_update_ne _ _ _ _ (Nat.ne_of_lt (Nat.lt_succ_of_lt lt)),Heap.get?_push_ne _ _ _ (by rw[sz];exact Nat.ne_of_lt (Nat.lt_succ_of_lt lt)),Heap.get?_update_ne _ _ _ _ (Nat.ne_of_lt lt),Heap.get?_push_ne _ _ _ (Nat.ne_of_lt lt)]
    exact e
  show wpAny _ _ _ _ _ { s with heap:=((s.heap.push (seqObj "list" #[] 0)).update s.heap.objs.size (Obj.mapSeq (· ++ vs.toArray))).push (seqObj "list" vs.toArray 0) }
  rw[sz]
  refine wpAny_bind (wpAny_holding (wpAny_call_entry slot_list_sort ⟨_,at1,rfl⟩ entry_list_sort (NZ at1 hlen h64 hok (λ i v p a b=>(hp i v p a b).keep old) λ out z=>⟨_,rfl,?_⟩) (args_list_sort _)))
  exact wpAny_pure ⟨_,rfl,h out z⟩
end
section
variable(K:PySem.W.Frag){X:Cx}
noncomputable def IS:List V->Hp->VK->Prop:=λ xs H Q=>∃ (a:Addr) (us:List V) (ps:List (Int × Int)),xs=[.ref a]/\SqL K H a us/\us.length=ps.length/\us.length < 64/\(∀ q ∈ ps,pok q) /\
  (∀ (i:Nat) (u:V) (q:Int × Int),us[i]? = some u->ps[i]? = some q->∃ x,u=.ref x/\SqT K H x [.int q.1,.int q.2]) /\
  ∀ (p:Addr) (zs:List (V × (Int × Int))),H p=none->zs.Perm (us.zip ps)->(zs.map λ z=>Co z.2).Pairwise (· <= ·)->Q (.ref p) (upd H p (.lst (zs.map (·.1))))
noncomputable def GO:Value->V
  | .ref x=>.ref x
  | _=>.non
theorem Kx:∀ {us:List V} {its:List Value} {i:Nat} {u:V},Vals us its->us[i]? = some u->∃ v,its[i]? = some v/\RelV u v
  | _,_,_,_,.nil,h=>by simp at h
  | _ :: _,_ :: _,0,_,.cons r _,h=>by
    simp at h;subst h;exact⟨_,rfl,r⟩
  | _ :: _,_ :: _,i + 1,_,.cons _ t,h=>Kx (i:=i) t (by simpa using h)
theorem MN(hK:X.K=K:=by rfl):CallR X (.builtin "sorted") (IS K):=by
  subst hK
  intro pins s σ H xs us0 Q I r h
  obtain⟨a,us,ps,rfl,hq,hlen,h64,hok,hpr,q⟩:=h
  obtain⟨u,rfl,ru⟩:=Cc r
  cases ru
  obtain⟨its,rv,p,hz⟩:=I.list hq
  have hl2:us.length=its.length:=rv.length
  have point:∀ (i:Nat) (v:Value) (q:Int × Int),its[i]? = some v->ps[i]? = some q->(∃ x,us[i]? = some (.ref x)/\v=.ref x)/\PairAt s.heap v q:=by
    intro i v q e1 e2
    have hi:i < us.length:=by rw[hl2];exact(List.getElem?_eq_some_iff.mp e1).1
    have eu:us[i]? = some us[i]:=by simp[hi]
    obtain⟨x,ex,sq⟩:=hpr i _ q eu e2
    obtain⟨v',ev,rel⟩:=Kx rv eu
    rw[e1]at ev
    cases ev
    rw[ex]at rel eu
    have rel:v=Value.ref x:=rel
    subst rel
    refine⟨⟨x,eu,rfl⟩,?_⟩
    obtain⟨jts,rj,⟨o,ho,hc,n,hd⟩,_⟩:=I.tuple sq
    cases rj with
    | cons r1 t1=>
      cases t1 with
      | cons r2 t2=>
        cases t2
        obtain⟨t,rfl⟩:=r1
        obtain⟨t',rfl⟩:=r2
        exact⟨x,o,t,t',n,rfl,ho,hc,hd⟩
  refine LA (ps:=ps) p.isList (by omega) (by omega) hok (λ i v q a b=>(point i v q a b).2) λ out z=>?_
  obtain⟨zs,pm,pw,rfl⟩:=z
  obtain⟨e,he⟩:=sortedAll_at s.heap its (zs.map (·.1)).toArray
  have mz:∀ z ∈ zs,∃ x,z.1=.ref x:=λ z hz=>by
    have:=pm.mem_iff.mp hz
    obtain⟨i,hi⟩:=List.mem_iff_getElem?.mp this
    obtain⟨e1,e2⟩:=List.getElem?_zip_eq_some.mp hi
    obtain⟨⟨x,_,ex⟩,_⟩:=point i _ _ e1 e2
    exact⟨x,ex⟩
  have vz:∀ {zs:List (Value × (Int × Int))},(∀ z ∈ zs,∃ x,z.1=.ref x)->Vals (zs.map λ z=>GO z.1) (zs.map (·.1)):=by
    intro zs
    induction zs with
    | nil=>intro _;exact .nil
    | cons z r ih=>
      intro h
      obtain⟨x,ex⟩:=h z List.mem_cons_self
      refine .cons ?_ (ih λ y hy=>h y (List.mem_cons_of_mem _ hy))
      show RelV (GO z.1) z.1
      rw[ex];rfl
  have pm2:(zs.map λ z=>(GO z.1,z.2)).Perm (us.zip ps):=by
    have:=pm.map λ z:Value × (Int × Int)=>(GO z.1,z.2)
    have e:((its.zip ps).map λ z:Value × (Int × Int)=>(GO z.1,z.2))=us.zip ps:=by
      refine List.ext_getElem? λ i=>?_
      by_cases hi:i < us.length
      . have h1:i < its.length:=by omega
        have h2:i < ps.length:=by omega
        have e1:its[i]? = some its[i]:=by simp[h1]
        have e2:ps[i]? = some ps[i]:=by simp[h2]
        obtain⟨⟨x,ex,ev⟩,_⟩:=point i _ _ e1 e2
        rw[List.getElem?_map,(List.getElem?_zip_eq_some (z:=(its[i],ps[i]))).mpr ⟨e1,e2⟩,(List.getElem?_zip_eq_some (z:=(V.ref x,ps[i]))).mpr ⟨ex,e2⟩,Option.map_some,ev]
        rfl
      . rw[List.getElem?_eq_none (by simp;omega),List.getElem?_eq_none (by simp;omega)]
    rwa [e]at this
  have pw2:((zs.map λ z=>(GO z.1,z.2)).map λ z:V × (Int × Int)=>Co z.2).Pairwise (· <= ·):=by rw[List.map_map];exact pw
  have fin:=q (s.heap.objs.size + 1) _ (I.hok.fresh (Nat.le_succ _)) pm2 pw2
  have em:(zs.map λ z=>(GO z.1,z.2)).map (·.1)=zs.map λ z=>GO z.1:=by rw[List.map_map];rfl
  rw[em]at fin
  have zl:zs.length < 64:=by rw[pm.length_eq];simp;omega
  refine⟨.ref (s.heap.objs.size + 1),_,I.laid (a:=s.heap.objs.size + 1) (o:=.lst (zs.map λ z=>GO z.1)) (t':=s.toks) (λ b o hb=>sortedAll_old hb) (Nat.le_succ _) ⟨?_,_,e,vz mz,he⟩,rfl,fin⟩
  rw[List.length_map]
  exact Nat.le_of_lt (KA (by omega))
end
noncomputable def Aj(p:Int × Int):D:=.im (.tup [.int p.1,.int p.2])
noncomputable def E6:List D->Option (List (Int × Int))
  | []=>some []
  | .im (.tup [.int a,.int b]) :: r=>(E6 r).map ((a,b) :: ·)
  | _=>none
theorem P5:∀ {ds:List D} {ps:List (Int × Int)},E6 ds=some ps->ds=ps.map Aj:=by
  intro ds
  induction ds with
  | nil=>intro ps h;simp[E6]at h;subst h;rfl
  | cons d r ih=>
    intro ps h
    unfold E6 at h
    split at h
    . next e=>cases e
    . next a b r' e=>
      cases e
      obtain⟨qs,e1,rfl⟩:=Option.map_eq_some_iff.mp h
      rw[ih e1]
      rfl
    . cases h
@[simp] theorem Nt(ps:List (Int × Int)):E6 (ps.map Aj)=some ps:=by
  induction ps with
  | nil=>rfl
  | cons p r ih=>simp[E6,Aj]at ih ⊢;exact ih
noncomputable def Et(ps:List (Int × Int)):List (Int × Int):=ps.mergeSort λ a b=>decide (Co a <= Co b)
theorem Es(ps:List (Int × Int)):(Et ps).Perm ps:=List.mergeSort_perm ..
theorem LD(ps:List (Int × Int)):(Et ps).Pairwise λ a b=>Co a <= Co b:=by
  have:=List.pairwise_mergeSort (le:=λ a b:Int × Int=>decide (Co a <= Co b)) (by intro a b c h1 h2;simp at *;omega) (by intro a b;simp;omega) ps
  exact this.imp (by simp)
theorem Re{p q:Int × Int}(a:pok p)(b:pok q)(h:Co p=Co q):p=q:=by
  unfold pok at a b
  unfold Co at h
  exact Prod.ext (by omega) (by omega)
open Classical in
noncomputable def EF(m:MI):MA:=λ ls hd=>(m ls hd).bind λ p=>(E6 p.1.1).bind λ ps=>if ps.length < 64/\∀ q ∈ ps,pok q then some ((Et ps).map Aj,p.2)else none
section
variable{K:PySem.W.Frag}{ρ:List Addr}{H:Hp}{hd:Hd}
theorem Te{p:Int × Int}{v:V}(h:RD K ρ H (Aj p) v):∃ x,v=.ref x/\SqT K H x [.int p.1,.int p.2]:=by
  simp only[Aj,RD,RI,RIs]at h
  obtain⟨a,xs,rfl,q,x,r,rfl,rfl,y,r2,rfl,rfl,rfl⟩:=h
  exact⟨a,rfl,q⟩
theorem Nh{t:TE}{m:MI}(h:RRw K false t m):RN K (tCB (IS K) (Bp t Ck)) (EF m):=by
  intro ρ σ H hd ls Q d hd' hR hL hm hQ
  obtain⟨⟨⟨d1,g1⟩,h1⟩,e1,hm⟩:=Option.bind_eq_some_iff.mp hm
  obtain⟨ps,e2,hm⟩:=Option.bind_eq_some_iff.mp hm
  split at hm
  . next c=>
    cases hm
    refine h ρ σ H hd ls _ d1 g1 _ hR hL e1 λ ρ1 H1 a x1 R1 G1 S1=>?_
    obtain⟨xs,q,r⟩:=S1 ρ1 H1 _ .refl R1 G1
    have e2:E6 d1=some ps:=e2
    rw[P5 e2]at r
    have hl:xs.length=ps.length:=by simpa using r.len
    have each:∀ (i:Nat) (u:V) (q:Int × Int),xs[i]? = some u->ps[i]? = some q->RD K ρ1 H1 (Aj q) u:=λ i u q a b=>by
      obtain⟨x,e,z⟩:=r.get (i:=i) (d:=Aj q) (by simp[b])
      rw[a]at e;cases e;exact z
    refine⟨a,xs,ps,rfl,q,hl,by rw[hl];exact c.1,c.2,λ i u q a b=>Te (each i u q a b),λ p zs hp pm pw=>?_⟩
    have es:zs.map (·.2)=Et ps:=by
      have pp:(zs.map (·.2)).Perm ps:=by
        have:=pm.map (λ z:V × (Int × Int)=>z.2)
        rwa [List.map_snd_zip (by omega)]at this
      refine(pp.trans (Es ps).symm).eq_of_pairwise (le:=λ a b=>Co a <= Co b) (λ x y hx hy l1 l2=>Re (c.2 _ (pp.mem_iff.mp hx)) (c.2 _ ((Es ps).mem_iff.mp hy)) (Int.le_antisymm l1 l2)) ?_ (LD ps)
      rw[List.pairwise_map]at pw ⊢
      exact pw
    obtain⟨R2,x2⟩:=R1.hid (ho:=.lst (zs.map (·.1))) hp
    have all:∀ z ∈ zs,RD K ρ1 H1 (Aj z.2) z.1:=λ z hz=>by
      obtain⟨i,hi⟩:=List.mem_iff_getElem?.mp (pm.mem_iff.mp hz)
      obtain⟨a1,a2⟩:=List.getElem?_zip_eq_some.mp hi
      exact each i _ _ a1 a2
    have rd:∀ {zs:List (V × (Int × Int))},(∀ z ∈ zs,RD K ρ1 H1 (Aj z.2) z.1)->RDs K ρ1 H1 ((zs.map (·.2)).map Aj) (zs.map (·.1)):=by
      intro zs
      induction zs with
      | nil=>intro _;exact .nil
      | cons z r ih=>intro h;exact .cons (h z List.mem_cons_self) (ih λ y hy=>h y (List.mem_cons_of_mem _ hy))
    have rz:=rd all
    rw[es]at rz
    exact hQ ρ1 _ p _ (x1.trans R1 x2) R2 (x1.none hR hp R1) (R1.out hp) Am (rz.ext R1 x2)
  . cases hm
open Classical in
noncomputable def He:D->List D->Hd->Option (D × Hd)
  | .mu n,[.im (.int i)],hd=>match hd[n]? with
    | some (.lst ds)=>if HD i then(ixN ds.length i).bind λ k=>(ds[k]?).map λ y=>(y,hd.set n (.lst (ds.eraseIdx k)))else none
    | _=>none
  | _,_,_=>none
theorem RDs.erase:∀ {ds:List D} {xs:List V} (k:Nat),RDs K ρ H ds xs->RDs K ρ H (ds.eraseIdx k) (xs.eraseIdx k)
  | [],_,_,h=>by simp only[RDs]at h;subst h;simp[RDs]
  | d :: ds,_,0,h=>by simp only[RDs]at h;obtain⟨x,r,rfl,_,t⟩:=h;simpa using t
  | d :: ds,_,k + 1,h=>by
    simp only[RDs]at h
    obtain⟨x,r,rfl,a,t⟩:=h
    simpa using RDs.cons a (RDs.erase k t)
end
end L2
namespace L2
open PySem PySem.Spec PyProof.Rows PySem.W
theorem Qs{K:PySem.W.Frag}:RM K Oo He:=by
  intro ρ H hd d v ds vs Q z hd' hR h1 h2 hf hQ
  unfold He at hf
  split at hf
  . split at hf
    . next q=>
      split at hf
      . next c=>
        obtain⟨k,e0,hf⟩:=Option.bind_eq_some_iff.mp hf
        obtain⟨y,e1,e3⟩:=Option.map_eq_some_iff.mp hf
        cases e3
        simp only[RD]at h1
        obtain⟨a,hn,rfl⟩:=h1
        simp only[RDs,RD,RI]at h2
        obtain⟨x,r,rfl,rfl,rfl⟩:=h2
        obtain⟨xs,f1,f2⟩:=hR.lst hn q
        obtain⟨x,x1,x3⟩:=f2.get e1
        obtain⟨R2,x2⟩:=hR.put hn (o:=.lst _) (ho:=.lst (xs.eraseIdx k)) ⟨_,rfl,f2.erase k⟩
        obtain⟨s1,s2,s3,s4⟩:=Jx e0
        have sz:=f2.len
        unfold HD at c
        exact⟨a,xs,_,k,x,rfl,rfl,f1,by omega,by omega,by rw[sz];exact s1,x1,hQ ρ _ _ x2 R2 (x3.ext hR x2)⟩
      . cases hf
    . cases hf
  . cases hf
section
variable(K:PySem.W.Frag){X:Cx}{e:Expr}{te:TE}{p pos:Pos}
theorem J8{mi:MI}(hm:X.mg "sorted"=none)(ha:QR K false X e te mi)(hg:Gl X "sorted":=by rfl)(he:starEach [e] X.env=[(false,eval e X.env)]:=by rfl)(hK:X.K=K:=by rfl):QN K X (.Call (.Name "sorted" p) [e] [] pos) (tCB (IS K) (Bp te Ck)) (EF mi):=
  ⟨FP (MN K hK) hg hm KO (Cf ha.p Di he) (by decide) (by decide) he rfl,Nh ha.r⟩
end
section
variable{ls:Ls}{hd:Hd}
open Classical in
@[simp] theorem S5(k:Nat)(i:Int):He (.mu k) [.im (.int i)] hd=match hd[k]? with
    | some (.lst ds)=>if HD i then(ixN ds.length i).bind λ j=>(ds[j]?).map λ y=>(y,hd.set k (.lst (ds.eraseIdx j)))else none
    | _=>none:=rfl
open Classical in
@[simp] theorem O9(mi:MI):EF mi ls hd=(mi ls hd).bind λ p=>(E6 p.1.1).bind λ ps=>if ps.length < 64/\∀ q ∈ ps,pok q then some ((Et ps).map Aj,p.2)else none:=rfl
end
end L2
namespace L2
open PySem PySem.Spec PyProof.Rows PySem.W
noncomputable def Ff(m:ME):MI:=λ ls hd=>match BS m ls hd with
  | some z=>some z
  | none=>Ca m ls hd
noncomputable def NB(K:PySem.W.Frag)(t:TE):TI:=λ σ H R=>M4 K t σ H R ∨ JT K t σ H R
theorem VG{K:PySem.W.Frag}{t:TE}{m:ME}(h:RE K t m):RIt K (NB K t) (Ff m):=by
  intro ρ σ H hd ls Q d g hd' hR hL hm hQ
  unfold Ff at hm
  split at hm
  . next z e=>
    cases hm
    exact .inl (Oi h ρ σ H hd ls Q d g hd' hR hL e hQ)
  . exact .inr (Mt h ρ σ H hd ls Q d g hd' hR hL hm hQ)
theorem J9(K:PySem.W.Frag){X:Cx}{tg e:Expr}{t:TE}{m:ME}(h:QE K X e t m)(hK:X.K=K:=by rfl):QI K X tg e (NB K t) (Ff m):=
  ⟨λ pins s σ H R I q=>q.elim (λ q=>(N4 K h.p hK) pins s σ H R I q) λ q=>(Lk K h.p hK) pins s σ H R I q,VG h.r⟩
section
variable{m:ME}{ls:Ls}{hd hd':Hd}
theorem UR{is:List I}(e:m ls hd=some (.im (.tup is),hd')):Ff m ls hd=some ((is.map .im,[]),hd'):=by unfold Ff;simp[e]
theorem WK{k:Nat}{ds:List D}(e:m ls hd=some (.mu k,hd'))(h:hd'[k]? = some (.lst ds)):Ff m ls hd=some ((ds,[(k,ds)]),hd'):=by unfold Ff;simp[e,h]
end
end L2
namespace L2
open PySem PySem.Spec PyProof.Rows PySem.W
end L2
namespace L2
open PySem PySem.Spec PyProof.Rows
section
variable{prog:Program}{w:World}{A:Around}{R:Result->Shared->Prop}{s:Shared}
theorem Uh(k v target iter:Expr)(ifs:List Expr)(scope:Scope)(pos:Pos)(it acc:Value)(env:Env) :
    compTurn (.DictComp k v [⟨target,iter,ifs,0⟩] scope pos) 0 it acc env=(do
      standAt iter.pos
      match <- pyNext it with
      | none=>pure (.done .next)
      | some x=>
        letOwnedTupleGo target it x
        assign target env x
        let mut ok:=true
        for c in ifs do
          if ok then ok <- isTrue c env (eval c env)
        if ok then
          (do
            let kv <- eval k env
            let vv <- holding [kv] (eval v env)
            match acc with
            | .ref d=>do
              standAt { k.pos with endLine:=v.pos.endLine,endCol:=v.pos.endCol }
              holding [kv,vv] (dictSet d kv vv)
            | _=>unsupported "internal:dictcomp")
        again (.compLoop (.DictComp k v [⟨target,iter,ifs,0⟩] scope pos) 0 it acc env)):=by rfl
theorem MH(elt target iter:Expr)(ifs:List Expr)(scope:Scope)(pos:Pos)(it acc:Value)(env:Env) :
    compTurn (.SetComp elt [⟨target,iter,ifs,0⟩] scope pos) 0 it acc env=(do
      standAt iter.pos
      match <- pyNext it with
      | none=>pure (.done .next)
      | some x=>
        letOwnedTupleGo target it x
        assign target env x
        let mut ok:=true
        for c in ifs do
          if ok then ok <- isTrue c env (eval c env)
        if ok then
          (do let v <- eval elt env;standAt elt.pos;let _ <- call (.builtin "set.add") [acc,v])
        again (.compLoop (.SetComp elt [⟨target,iter,ifs,0⟩] scope pos) 0 it acc env)):=by rfl
theorem Po{e target iter:Expr}{ifs:List Expr}{it acc:Value}{env:Env}{emit:Sem Unit}(I:Nat->Shared->Prop)
    (hden:(model prog w).den (.compLoop e 0 it acc env)=(compTurn e 0 it acc env).onRaise (λ x=>do noteFrame x env;theTreesLotGoes x))
    (hund:A.under (.compLoop e 0 it acc env)=A)
    (hturn:compTurn e 0 it acc env=(do
      standAt iter.pos
      match <- pyNext it with
      | none=>pure (.done .next)
      | some x=>
        letOwnedTupleGo target it x
        assign target env x
        let mut ok:=true
        for c in ifs do
          if ok then ok <- isTrue c env (eval c env)
        if ok then emit
        again (.compLoop e 0 it acc env)))
    (turn:∀ n s,I n s->wpAny (model prog w) A (pyNext it) (λ r s₁=>match r with
      | none=>R (.ok .next) s₁
      | some v=>wpAny (model prog w) A (letOwnedTupleGo target it v) (λ _ s₁=>wpAny (model prog w) A (assign target env v) (λ _ s₂=>
          wpAny (model prog w) A (forIn ifs true λ c r=>if r=true then do let ok <- isTrue c env (eval c env);pure (ForInStep.yield ok)else pure (ForInStep.yield r)) (λ ok s₃=>
            if ok=true then wpAny (model prog w) A emit (λ _ s₅=>∃ m,m < n/\I m s₅) (λ _ _=>False) s₃
            else ∃ m,m < n/\I m s₃) (λ _ _=>False) s₂) (λ _ _=>False) s₁) (λ _ _=>False) s₁) (λ _ _=>False) s)
    (n:Nat) (h:I n s) :
    codeAny (model prog w) A (.compLoop e 0 it acc env) R s:=by
  refine codeAny_loop rfl I (λ n s hI=>?_) n h
  rw[hden,hund]
  refine wpAny_noted ?_
  rw[hturn]
  refine wpAny_bind (wpAny_standAt (wpAny_bind (wpAny_mono (turn n s hI) (λ r s₁ h₁=>?_) λ _ _ h'=>h'.elim)))
  cases r with
  | none=>exact wpAny_pure h₁
  | some v=>
    refine wpAny_bind (wpAny_mono h₁ (λ _ s₁ h₁=>?_) λ _ _ h'=>h'.elim)
    refine wpAny_bind (wpAny_mono h₁ (λ _ s₂ h₂=>wpAny_bind (wpAny_mono h₂ (λ ok s₃ h₃=>?_) λ _ _ h'=>h'.elim)) λ _ _ h'=>h'.elim)
    cases ok with
    | false=>exact wpAny_pure ⟨rfl,h₃⟩
    | true=>
      exact wpAny_bind (wpAny_mono h₃ (λ x s₄ h₄=>wpAny_pure ⟨rfl,h₄⟩) λ _ _ h'=>h'.elim)
theorem OH{e:Expr}{g:Comprehension}{gs:List Comprehension}{it acc:Value}{env:Env}(hcl:clausesOf e=g :: gs)(hasy:g.is_async=0)
    (hden:(model prog w).den (.compStart e 0 it acc env)=(compStart e 0 it acc env).onRaise (λ x=>do noteFrame x env;standAt theWindowsPlace))
    (hund:A.under (.compStart e 0 it acc env)=A)
    (h0:codeAny (model prog w) A (.compLoop e 0 it acc env) R s)
    (h:wpAny (model prog w) A (pyIter it) (λ it' s'=>codeAny (model prog w) A (.compLoop e 0 it' acc env) R s')
      (notedBy (model prog w) A env λ x s'=>R (.error x) s') s) :
    codeAny (model prog w) A (.compStart e 0 it acc env) R s:=by
  refine codeAny_of_tree ?_
  rw[hden,hund]
  refine wpAny_notedAt ?_
  have e1:((clausesOf e)[0]?).elim false (·.is_async != 0)=false:=by rw[hcl];simp[hasy]
  have e2:(clausesOf e)[0]? = some g:=by rw[hcl];rfl
  unfold compStart
  rw[e1,e2]
  show wpAny _ _ (ask >>= _) _ _ s
  refine wpAny_bind (wpAny_askSetting (wpAny_ite ?_))
  split
  . first
      | exact wpAny_bind (wpAny_pure (wpAny_pure (And.intro rfl h0)))
      | exact wpAny_pure (And.intro rfl h0)
  . first
      | exact wpAny_bind (wpAny_rule (wpAny_bind (wpAny_standAt (wpAny_bind (wpAny_mono h (λ it' s' h'=>wpAny_pure (And.intro rfl h')) λ _ _ x=>x)))))
      | (refine wpAny_bind (wpAny_rule ?_);show wpAny _ _ (standAt g.iter.pos >>= _) _ _ s;exact wpAny_bind (wpAny_standAt (wpAny_bind (wpAny_mono h (λ it' s' h'=>wpAny_pure (And.intro rfl h')) λ _ _ x=>x))))
end
noncomputable abbrev TM:=Addr->St->Hp->(Hp->Prop)->Prop
noncomputable def PM(X:Cx)(emit:Value->Env->Sem Unit)(t:TM):Prop:=
  ∀ (D:Addr) (pins:List (Addr × Obj)) (s:Shared) (σ:St) (H:Hp) (Q:Hp->Prop),Inv X pins σ H s->t D σ H Q->wpAny (model X.prog X.w) X.A (emit (.ref D) X.env) (λ _ s'=>∃ H',Inv X pins σ H' s'/\Q H') X.xe s
noncomputable def Wz(J:It)(D:Addr)(o:HO)(σ0:St)(H0:Hp)(g:TG)(tf:TT)(tm:TM)(Q:VK):Prop:=∃ W:Nat->Nat->St->Hp->Prop,
  (∃ m,W 0 m σ0 (upd H0 D o))/\∀ i m σ H,W i m σ H ->
    ((J.stop i H/\Q (.ref D) H) ∨ (J.go i H/\∃ N:St->Hp->Prop,(∀ σ' H',N σ' H'->∃ m',m' < m/\W (i + 1) m' σ' H') /\
      ∀ x H',J.yld i H x H'->g x σ H' λ σ2 H2=>tf σ2 H2 λ b H3=>
        if b=true then tm D σ2 H3 λ H4=>N σ2 H4 else N σ2 H3))
noncomputable def Ir(o:HO)(n:Nat)(ix:List Nat)(wi:TI)(g:TG)(tf:TT)(tm:TM):TE:=λ σ H Q=>wi σ H λ J H1=>∀ D,H1 D=none->Wz J D o (FU n ix σ) H1 g tf tm Q
section
variable{X:Cx}
theorem Rj{e tg iter:Expr}{ifs:List Expr}{scope:Scope}{pos:Pos}{loc fr:List Str}{ix:List Nat}{wi:TI}{g:TG}{tf:TT}{tm:TM}{emit:Value->Env->Sem Unit}{newAcc:Sem Value}{ho:HO}
    (hc:X.calm=true) (S:CSc X scope fr ix) (hi:PI X tg iter wi)
    (hg:∀ s H ex,PG (cCx X (loc ++ fr) scope s H ex) tg g) (hf:∀ s H ex,PF (cCx X (loc ++ fr) scope s H ex) ifs tf) (he:∀ s H ex,PM (cCx X (loc ++ fr) scope s H ex) emit tm)
    (hev:eval e X.env=comprehension e scope X.env pos newAcc false (eval iter X.env))
    (hcl:clausesOf e=[⟨tg,iter,ifs,0⟩])
    (hturn:∀ it acc env,compTurn e 0 it acc env=(do
      standAt iter.pos
      match <- pyNext it with
      | none=>pure (.done .next)
      | some x=>
        letOwnedTupleGo tg it x
        assign tg env x
        let mut ok:=true
        for c in ifs do
          if ok then ok <- isTrue c env (eval c env)
        if ok then emit acc env
        again (.compLoop e 0 it acc env)))
    (hd1:∀ it acc env,(model X.prog X.w).den (.compLoop e 0 it acc env)=(compTurn e 0 it acc env).onRaise (λ x=>do noteFrame x env;theTreesLotGoes x))
    (hd2:∀ it acc env,(model X.prog X.w).den (.compStart e 0 it acc env)=(compStart e 0 it acc env).onRaise (λ x=>do noteFrame x env;standAt theWindowsPlace))
    (hu1:∀ it acc env,X.A.under (.compLoop e 0 it acc env)=X.A) (hu2:∀ it acc env,X.A.under (.compStart e 0 it acc env)=X.A)
    (hnew:∀ (pins:List (Addr × Obj)) (s:Shared) (σ:St) (H:Hp) (Q:Value->Shared->Prop),Inv X pins σ H s->(∀ ob,Inv X pins σ (upd H s.heap.objs.size ho) { s with heap:=s.heap.push ob }->Q (.ref s.heap.objs.size) { s with heap:=s.heap.push ob })->wpAny (model X.prog X.w) X.A newAcc Q X.xe s)
    (hs:∀ x,foldedSetIterable iter X.env x=pure x:=by intro _;rfl):PE X e (Ir ho loc.length ix wi g tf tm):=by
  intro pins s σ H Q I h
  rw[hev]
  have hnames:∀ y ∈ scope.names,y.2=.local->scope.names.lookup y.1=some .local:=λ y hy e=>by
    have:=List.all_eq_true.mp S.loc y hy
    rw[e]at this
    simpa using this
  refine wpAny_comprehension_free (use:=none) hcl hs (DE (S.clos I.ok)) S.kind hnames (thn (hi pins s σ H _ I h) λ v s1 h1=>thn h1 λ itv s2 h2=>?_)
  obtain⟨it,fp,tn,J,H2,rfl,I2,T,st2,f2,hW⟩:=h2
  refine hnew pins s2 σ H2 _ I2 λ ob I3=>?_
  have fresh2:H2 s2.heap.objs.size=none:=I2.hok.fresh (Nat.le_refl _)
  obtain⟨W,⟨m0,w0⟩,turn⟩:=hW s2.heap.objs.size fresh2
  have lt2:∀ b ∈ fp,b < s2.heap.objs.size:=λ b hb=>let ⟨o,e,_⟩:=T.obj 0 _ st2 b hb;Heap.lt_size e
  have f3:∀ b ∈ fp,C6 X pins (upd H2 s2.heap.objs.size ho) b:=λ b hb=>⟨by rw[AR (Nat.ne_of_lt (lt2 b hb))];exact(f2 b hb).1,(f2 b hb).2⟩
  have lt3:∀ b ∈ fp,b < (s2.heap.push ob).objs.size:=λ b hb=>by rw[Heap.size_push];exact Nat.lt_succ_of_lt (lt2 b hb)
  generalize hs3:({ s2 with heap:=s2.heap.push ob }:Shared)=s3 at *
  have lt3:∀ b ∈ fp,b < s3.heap.objs.size:=by rw[<- hs3];exact lt3
  have st3:tn 0 s3.heap:=T.keep _ _ _ st2 λ b hb o e=>by rw[<- hs3];exact Heap.get?_push_of_some _ e
  refine Hv λ h' hk hn ho' ha=>?_
  have I4:=GX (loc:=loc) S I3 f3 hk hn ho' ha lt3
  have fpX:∀ {H':Hp},(∀ b ∈ fp,H' b=none)->∀ b ∈ fp,C6 (cCx X (loc ++ fr) scope s3 (upd H2 s2.heap.objs.size ho) fp) [] H' b:=λ hn b hb=>
    ⟨hn b hb,(I4.ok.exf b hb).1,I4.ok.exfs b hb,.inl hb,(I4.ok.exf b hb).2,λ p hp=>by cases hp⟩
  have loop:codeAny (model X.prog X.w) X.A (.compLoop e 0 (.ref it) (.ref s2.heap.objs.size) (MU scope s3.heap.objs.size X.env))
      (compPost (model X.prog X.w) X.A X.xe none (EP X pins σ Q) (.ref s2.heap.objs.size) s3.heap.objs.size) { s3 with heap:=h' }:=by
    refine Po (λ n s'=>∃ i σ' H',Inv (cCx X (loc ++ fr) scope s3 (upd H2 s2.heap.objs.size ho) fp) [] σ' H' s'/\tn i s'.heap/\(∀ b ∈ fp,H' b=none)/\W i n σ' H') (hd1 _ _ _) (hu1 _ _ _) (hturn _ _ _) ?_ m0
      ⟨0,_,_,I4,T.keep _ _ _ st3 λ b hb o e=>hk b o e,λ b hb=>(f3 b hb).1,w0⟩
    rintro n s5 ⟨i,σ5,H5,I5,st5,fr5,w5⟩
    have w5:=turn i n σ5 H5 w5
    rcases w5 with⟨stop,qn⟩|⟨go,N,hN,step⟩
    . refine thn (T.done (cCx X (loc ++ fr) scope s3 (upd H2 s2.heap.objs.size ho) fp) rfl rfl rfl hc i [] s5 σ5 H5 _ I5 (fpX fr5) st5 stop) λ r s6 ⟨hr,I6⟩=>?_
      subst hr
      obtain⟨m,hm,_⟩:=I6.loc
      refine⟨m,hm,λ h'' hs=>?_⟩
      have neC:∀ b o,s3.heap.get? b=some o->b ≠ s3.heap.objs.size:=λ b o e=>Nat.ne_of_lt (Heap.lt_size e)
      have un:=I6.base
      refine⟨.ref s2.heap.objs.size,H5,I3.call' (s':={ s6 with heap:=h'' }) (ch:=fp) I6.os ⟨λ b o e n hb hx=>?_,λ b o e n hb hx=>?_,un.free,λ b o e hx=>?_,un.tups,un.frzs,un.tbls⟩ ?_ I6.bare ?_,rfl,qn⟩
      . exact(hs.2 b (neC b o e)).trans (un.keep b o e n hb hx)
      . obtain⟨sl,q⟩:=un.slot b o e n hb hx
        exact⟨sl,(hs.2 b (neC b o e)).trans q⟩
      . obtain⟨o',q⟩:=un.there b o e hx
        exact⟨o',(hs.2 b (neC b o e)).trans q⟩
      . intro b ob e
        have hfree:H5 s3.heap.objs.size=none:=I6.free
        refine(I6.hok b ob e).stay (λ c w' hc q=>(hs.2 c ?_).trans q) (λ _ q=>q) λ _ _ q=>q
        intro z
        rcases hc with hc|hc
        . rw[<- hc,z,hfree]at e;cases e
        . rw[z,hfree]at hc;cases hc
      . intro b hb
        obtain⟨_,a2,_,a4,a5,a6⟩:=f3 b hb
        exact⟨a4,a2,a5,a6⟩
    . refine thn (T.item (cCx X (loc ++ fr) scope s3 (upd H2 s2.heap.objs.size ho) fp) rfl rfl rfl hc i [] s5 σ5 H5 _ I5 (fpX fr5) st5 go) λ r s6 ⟨u,hr,h6⟩=>?_
      subst hr
      refine thn h6 λ _ s7 ⟨x,H7,I7,r7,y7,st7,fr7⟩=>?_
      have I7':=I7.pinned (fpX fr7) (T.obj _ _ st7)
      have keepI:∀ {σ8:St} {H8:Hp} {s8:Shared},Inv (cCx X (loc ++ fr) scope s3 (upd H2 s2.heap.objs.size ho) fp) ([] ++ E5 fp s7.heap) σ8 H8 s8->tn (i + 1) s8.heap/\∀ b ∈ fp,H8 b=none:=λ {σ8 H8 s8} I8=>by
        refine⟨T.keep _ _ _ st7 λ b hb o e=>(I8.pin (b,o) (List.mem_append_right _ (List.mem_append_right _ (BQ hb e)))).1,λ b hb=>?_⟩
        obtain⟨o,e,d⟩:=T.obj _ _ st7 b hb
        exact(I8.pin (b,o) (List.mem_append_right _ (List.mem_append_right _ (BQ hb e)))).2.1
      refine thn (hg s3 (upd H2 s2.heap.objs.size ho) fp _ s7 σ5 H7 x u _ I7' r7 (step x H7 y7)) λ _ s8 ⟨σ8,H8,I8,q8⟩=>?_
      refine thn (hf s3 (upd H2 s2.heap.objs.size ho) fp _ s8 σ8 H8 _ I8 q8) λ b s9 ⟨H9,I9,q9⟩=>?_
      cases b with
      | false=>
        rw[if_neg Bool.false_ne_true]at q9 ⊢
        obtain⟨m',hm,w9⟩:=hN _ _ q9
        exact⟨m',hm,i + 1,σ8,H9,I9.unpinned,(keepI I9).1,(keepI I9).2,w9⟩
      | true=>
        rw[if_pos rfl]at q9 ⊢
        refine thn (he s3 (upd H2 s2.heap.objs.size ho) fp _ _ s9 σ8 H9 _ I9 q9) λ e10 s10 ⟨H10,I10,n10⟩=>?_
        obtain⟨m',hm,w10⟩:=hN _ _ n10
        exact⟨m',hm,i + 1,σ8,_,I10.unpinned,(keepI I10).1,(keepI I10).2,w10⟩
  exact OH hcl rfl (hd2 _ _ _) (hu2 _ _ _) loop (T.self X.A 0 _ _ _ (T.keep _ _ _ st3 λ b hb o e=>hk b o e) loop)
noncomputable def Ke(te:TE):TM:=λ D σ H Q=>te σ H λ y H1=>∃ S n i,H1 D=some (.set S n)/\y=.int i/\n < 1000/\Q (upd H1 D (.set (λ k=>S k || decide (k=i)) (if S i then n else n + 1)))
noncomputable def OB(elt:Expr):Value->Env->Sem Unit:=λ acc env=>do let v <- eval elt env;standAt elt.pos;let _ <- call (.builtin "set.add") [acc,v]
theorem Vl{elt:Expr}{te:TE}(he:PE X elt te):PM X (OB elt) (Ke te):=by
  intro D pins s σ H Q I h
  unfold OB
  refine wpAny_bind (thn (he pins s σ H _ I h) λ u s1 ⟨y,H1,I1,r1,S,n,i,e,ey,l,q2⟩=>?_)
  subst ey
  obtain⟨t,rfl⟩:∃ t,u=.int i t:=by
    cases u <;> simp_all [RelV]
  refine wpAny_bind (wpAny_standAt (wpAny_bind ?_))
  have ok:=I1.hok D _ e
  refine call_set_add (k:=i) (knd:=intKind X.prog X.w) ?_ rfl ok ?_ λ h' hs hS=>wpAny_pure ⟨_,?_,q2⟩
  . simp[intKind,Value.isInt]
  . exact Nat.lt_of_le_of_lt (by omega:n + 1 <= 1000) (by decide)
  . have he:∃ q,h'.get? D=some q:=let ⟨q,_,_,_,hq,_⟩:=hS;⟨q,hq⟩
    exact Uc I1 (by rw[e];exact True.intro) hs he hS
theorem Rh{elt tg iter:Expr}{ifs:List Expr}{scope:Scope}{pos:Pos}{loc fr:List Str}{ix:List Nat}{wi:TI}{g:TG}{tf:TT}{te:TE}
    (hc:X.calm=true) (S:CSc X scope fr ix) (hi:PI X tg iter wi)
    (hg:∀ s H ex,PG (cCx X (loc ++ fr) scope s H ex) tg g) (hf:∀ s H ex,PF (cCx X (loc ++ fr) scope s H ex) ifs tf) (he:∀ s H ex,PE (cCx X (loc ++ fr) scope s H ex) elt te)
    (hs:∀ x,foldedSetIterable iter X.env x=pure x:=by intro _;rfl):PE X (.SetComp elt [⟨tg,iter,ifs,0⟩] scope pos) (Ir (.set (λ _=>false) 0) loc.length ix wi g tf (Ke te)):=by
  refine Rj (emit:=OB elt) (newAcc:=newSet (.type "set")) (pos:=firstIterPos [⟨tg,iter,ifs,0⟩] pos) hc S hi hg hf (λ s H ex=>Vl (he s H ex)) rfl rfl (λ it acc env=>MH ..) (λ _ _ _=>rfl) (λ _ _ _=>rfl) (λ _ _ _=>rfl) (λ _ _ _=>rfl) (λ pins s σ H Q I h=>?_) hs
  refine wpAny_newSet_of (knd:=intKind X.prog X.w) λ led hS=>h _ ?_
  exact I.laid (a:=s.heap.objs.size) (o:=.set (λ _=>false) 0) (t':=s.toks) (λ _ _ q=>Heap.get?_push_of_some _ q) (Nat.le_refl _) hS
end
end L2
namespace L2
open PySem PySem.Spec PyProof.Rows
section
variable{K:PySem.W.Frag}{ρ ρ':List Addr}{H H':Hp}{hd hd':Hd}
theorem RH.hputO(h:RH K ρ H hd){a:Addr}(out:a ∉ ρ){o ho:HO}(hl:H a=some o)(c:Chg H a)(n1:∀ ps,o ≠ .tbl ps)(n2:∀ φ,o ≠ .ext φ):RH K ρ (upd H a ho) hd:=by
  have gr:Grow H (upd H a ho):=Grow.refl.put c
  refine⟨h.len,h.nd,h.tabs.upd (λ ps z=>n1 ps (Option.some.inj (hl.symm.trans z))) (λ ps z=>n2 ps (Option.some.inj (hl.symm.trans z))),λ m o' b e1 e2=>?_⟩
  obtain⟨ho',q1,q2⟩:=h.ob m o' b e1 e2
  have:b ≠ a:=λ z=>out (by rw[<- z];exact List.mem_of_getElem? e2)
  exact⟨ho',by rw[AR this];exact q1,by simpa using q2.mono gr []⟩
theorem Ext.outk(x:Ext ρ H ρ' H'){a:Addr}{o:HO}(h:H a=some o)(out:a ∉ ρ):a ∉ ρ':=by
  obtain⟨r,rfl,fr⟩:=x.pre
  intro z
  rcases List.mem_append.mp z with z|z
  . exact out z
  . have:=fr _ z
    rw[h]at this;cases this
structure Acc(K:PySem.W.Frag)(α:Type)(o0:HO)(a0:α) where
  rel:List Addr->Hp->α->HO->Prop
  mono:∀ {ρ:List Addr} {H H':Hp} {a:α} {o:HO} (r:List Addr),Grow H H'->rel ρ H a o->rel (ρ ++ r) H' a o
  chg:∀ {ρ:List Addr} {H:Hp} {a:α} {o:HO},rel ρ H a o->(∀ xs,o ≠ .tup xs)/\∀ z u,o ≠ .frz z u
  chg2:∀ {ρ:List Addr} {H:Hp} {a:α} {o:HO},rel ρ H a o->(∀ xs,o ≠ .tbl xs)/\∀ z,o ≠ .ext z
  init:∀ ρ H,rel ρ H a0 o0
noncomputable abbrev MM(α:Type):=Ls->Hd->α->Option (α × Hd)
noncomputable def RM1{α:Type}{o0:HO}{a0:α}(B:Acc K α o0 a0)(t:TM)(m:MM α):Prop:=∀ (ρ:List Addr) (σ:St) (H:Hp) (hd:Hd) (ls:Ls) (a a':α) (hd':Hd) (Da:Addr) (o:HO) (Q:Hp->Prop),RH K ρ H hd->RL K ρ H ls σ->Da ∉ ρ->H Da=some o->B.rel ρ H a o ->
  m ls hd a=some (a',hd')->(∀ ρ' H' o',Ext ρ H ρ' H'->RH K ρ' H' hd'->H' Da=some o->B.rel ρ' H' a' o'->Q (upd H' Da o'))->t Da σ H Q
open Classical in
noncomputable def mGo{α:Type}(n:MG)(c:MT)(me:MM α)(g:Gd):List D->Ls->Hd->α->Option (α × Hd)
  | [],_,hd,a=>some (a,hd)
  | d :: r,ls,hd,a=>(n d ls hd).bind λ ls1=>(c ls1 hd).bind λ p=>if p.1=true then(me ls1 p.2 a).bind λ q=>if GOk q.2 g then mGo n c me g r ls1 q.2 q.1 else none else if GOk p.2 g then mGo n c me g r ls1 p.2 a else none
noncomputable def JO{α:Type}(k:Nat)(ix:List Nat)(mi:MI)(n:MG)(c:MT)(a0:α)(me:MM α):Ls->Hd->Option (α × Hd):=λ ls hd=>(mi ls hd).bind λ p=>mGo n c me p.1.2 p.1.1 (Dh k ix ls) p.2 a0
noncomputable def RNG{α:Type}{o0:HO}{a0:α}(B:Acc K α o0 a0)(t:TE)(m:Ls->Hd->Option (α × Hd)):Prop:=∀ (ρ:List Addr) (σ:St) (H:Hp) (hd:Hd) (ls:Ls) (Q:VK) (a:α) (hd':Hd),RH K ρ H hd->RL K ρ H ls σ->m ls hd=some (a,hd') ->
  (∀ ρ' H' Da o,Ext ρ H ρ' H'->RH K ρ' H' hd'->H Da=none->Da ∉ ρ'->H' Da=some o->B.rel ρ' H' a o->Q (.ref Da) H')->t σ H Q
theorem Qo{α:Type}{o0:HO}{a0:α}{B:Acc K α o0 a0}{k:Nat}{ix:List Nat}{wi:TI}{g:TG}{tf:TT}{tm:TM}{mi:MI}{n:MG}{c:MT}{m:MM α}(hi:RIt K wi mi)(hg:RGt K g n)(hf:RT K tf c)(he:RM1 B tm m):RNG B (Ir o0 k ix wi g tf tm) (JO k ix mi n c a0 m):=by
  intro ρ σ H hd ls Q out hd' hR hL hm hQ
  obtain⟨⟨⟨ds,gd⟩,h1⟩,e1,hm⟩:=Option.bind_eq_some_iff.mp hm
  dsimp only at hm
  refine hi ρ σ H hd ls _ ds gd h1 hR hL e1 λ ρ1 H1 J x1 R1 G1 Y=>?_
  intro Da hDa
  obtain⟨R1',x1'⟩:=R1.hid (ho:=o0) hDa
  have oD:Da ∉ ρ1:=R1.out hDa
  have nD:H Da=none:=x1.none hR hDa R1
  refine⟨λ i mm σ2 H2=>mm=ds.length - i/\i <= ds.length/\∃ ρ2 ls2 hd2 a2 o2,Ext ρ1 H1 ρ2 H2/\Da ∉ ρ2/\H2 Da=some o2/\RH K ρ2 H2 hd2/\RL K ρ2 H2 ls2 σ2/\B.rel ρ2 H2 a2 o2/\GOk hd2 gd/\mGo n c m gd (ds.drop i) ls2 hd2 a2=some (out,hd'),
    ⟨ds.length,by simp,Nat.zero_le _,ρ1,_,h1,a0,o0,x1',oD,Am,R1',(K1 ((hL.ext hR x1).ext R1 x1')),B.init _ _,G1,by simpa using hm⟩,?_⟩
  rintro i mm σ2 H2 ⟨rfl,hi,ρ2,ls2,hd2,a2,o2,x2,oD2,hD2,R2,L2',r2,G2,hm2⟩
  obtain⟨Y1,Y2⟩:=Y ρ2 H2 hd2 x2 R2 G2 i
  by_cases hlt:i < ds.length
  . obtain⟨go,Y1⟩:=Y1 hlt
    have ed:ds.drop i=ds[i] :: ds.drop (i + 1):=List.drop_eq_getElem_cons hlt
    rw[ed]at hm2
    unfold mGo at hm2
    obtain⟨ls3,e3,hm2⟩:=Option.bind_eq_some_iff.mp hm2
    obtain⟨⟨bb,hd4⟩,e4,hm2⟩:=Option.bind_eq_some_iff.mp hm2
    refine .inr ⟨go,λ σ' H'=>∃ ρ2 ls2 hd2 a2 o2,Ext ρ1 H1 ρ2 H'/\Da ∉ ρ2/\H' Da=some o2/\RH K ρ2 H' hd2/\RL K ρ2 H' ls2 σ'/\B.rel ρ2 H' a2 o2/\GOk hd2 gd/\mGo n c m gd (ds.drop (i + 1)) ls2 hd2 a2=some (out,hd'),λ σ' H' z=>⟨ds.length - (i + 1),by omega,rfl,hlt,z⟩,λ x H3 y=>?_⟩
    obtain⟨ρ3,d3,x3,rfl,R3,e5,r3⟩:=Y1 x H3 y
    have e6:d3=ds[i]:=by
      have:ds[i]? = some ds[i]:=by simp[hlt]
      rw[this]at e5;exact(Option.some.inj e5).symm
    subst e6
    refine hg ρ3 σ2 H3 hd2 ls2 ls3 _ x _ R3 (L2'.ext R2 x3) r3 e3 λ σ4 L4=>?_
    refine hf ρ3 σ4 H3 hd2 ls3 _ bb hd4 R3 L4 e4 λ ρ5 H5 x5 R5=>?_
    have hD3:H3 Da=some o2:=x3.keep Da _ hD2 oD2 (B.chg2 r2).1
    have hD5:H5 Da=some o2:=x5.keep Da _ hD3 oD2 (B.chg2 r2).1
    have out5:Da ∉ ρ5:=x5.outk hD3 oD2
    have y25:=x3.trans R3 x5
    have r5:B.rel ρ5 H5 a2 o2:=by
      obtain⟨r,rfl,fr⟩:=y25.pre
      exact B.mono r (y25.grow R2) r2
    cases bb with
    | false=>
      rw[if_neg Bool.false_ne_true]at hm2 ⊢
      split at hm2
      . next g5=>exact⟨ρ5,ls3,hd4,a2,o2,x2.trans R2 y25,out5,hD5,R5,L4.ext R3 x5,r5,g5,hm2⟩
      . cases hm2
    | true=>
      rw[if_pos rfl]at hm2 ⊢
      obtain⟨⟨z,hd6⟩,e6,hm2⟩:=Option.bind_eq_some_iff.mp hm2
      dsimp only at hm2
      split at hm2
      . next g6=>
        refine he ρ5 σ4 H5 hd4 ls3 a2 z hd6 Da o2 _ R5 (L4.ext R3 x5) out5 hD5 r5 e6 λ ρ6 H6 o6 x6 R6 hD6 r6=>?_
        have out6:Da ∉ ρ6:=x6.outk hD5 out5
        have c6:Chg H6 Da:=⟨λ xs z=>(B.chg r5).1 xs (by rw[hD6]at z;exact Option.some.inj z),λ x u z=>(B.chg r5).2 x u (by rw[hD6]at z;exact Option.some.inj z)⟩
        have gr:Grow H6 (upd H6 Da o6):=Grow.refl.put c6
        have R7:=R6.hputO (ho:=o6) out6 hD6 c6 (B.chg2 r5).1 (B.chg2 r5).2
        have x12:=(x2.trans R2 y25).trans R5 x6
        have ext7:Ext ρ1 H1 ρ6 (upd H6 Da o6):=⟨x12.pre,λ b o q nb t=>by
          have:b ≠ Da:=Ap q hDa
          rw[AR this];exact x12.keep b o q nb t,λ b ps q=>by
          have:b ≠ Da:=Ap q hDa
          rw[AR this];exact x12.tab b ps q⟩
        have L6:=(L4.ext R3 x5).ext R5 x6
        exact⟨ρ6,ls3,hd6,z,o6,ext7,out6,Am,R7,⟨L6.len,λ i d e=>let ⟨v,a,b⟩:=L6.ob i d e;⟨v,a,by simpa using b.mono gr []⟩⟩,by simpa using B.mono [] gr r6,g6,hm2⟩
      . cases hm2
  . have e:i=ds.length:=by omega
    subst e
    rw[List.drop_length]at hm2
    unfold mGo at hm2
    cases hm2
    exact .inl ⟨Y2 rfl,hQ ρ2 H2 Da o2 (x1.trans R1 x2) R2 nD oD2 hD2 r2⟩
noncomputable def Eo(l:List Int)(i:Int):List Int:=if i ∈ l then l else l ++ [i]
noncomputable def Ww(K:PySem.W.Frag):Acc K (List Int) (.set (λ _=>false) 0) [] where
  rel:=λ ρ H a o=>o=.set (λ k=>decide (k ∈ a)) a.length
  mono:=λ r g e=>e
  chg:=λ e=>⟨λ _ z=>(by subst e;cases z),λ _ _ z=>(by subst e;cases z)⟩
  chg2:=λ e=>⟨λ _ z=>(by subst e;cases z),λ _ z=>(by subst e;cases z)⟩
  init:=λ ρ H=>by simp
open Classical in
noncomputable def Kk(me:ME):MM (List Int):=λ ls hd a=>(me ls hd).bind λ q=>match q.1 with
  | .im (.int i)=>if a.length < 1000 then some (Eo a i,q.2)else none
  | _=>none
theorem VE{te:TE}{me:ME}(he:RE K te me):RM1 (Ww K) (Ke te) (Kk me):=by
  intro ρ σ H hd ls a a' hd' Da o Q hR hL out hD hrel hm hQ
  obtain⟨⟨d1,h1⟩,e1,hm⟩:=Option.bind_eq_some_iff.mp hm
  have hrel:o=.set (λ k=>decide (k ∈ a)) a.length:=hrel
  subst hrel
  dsimp only at hm
  split at hm
  . next i=>
    split at hm
    . next c=>
      cases hm
      refine he ρ σ H hd ls _ _ _ hR hL e1 λ ρ1 H1 v1 x1 R1 r1=>?_
      simp only[RD,RI]at r1
      subst r1
      have hD1:H1 Da=some (.set (λ k=>decide (k ∈ a)) a.length):=x1.keep Da _ hD out nt
      refine⟨_,_,i,hD1,rfl,c,hQ ρ1 H1 _ x1 R1 hD1 ?_⟩
      show HO.set _ _=HO.set _ _
      unfold Eo
      by_cases hi:i ∈ a
      . simp only[hi,decide_true,if_true]
        congr 1
        funext k
        by_cases hk:k=i
        . subst hk;simp[hi]
        . simp[hk]
      . simp only[hi,decide_false,if_false,Bool.false_eq_true,List.length_append,List.length_singleton]
        congr 1
        funext k
        simp[List.mem_append]
    . cases hm
  . cases hm
noncomputable def NX(t:TE):TE:=tCB (λ xs H Q=>∃ a S n,xs=[V.ref a]/\H a=some (.set S n)/\Q (.int n) H) (Bp t Ck)
noncomputable def Kj(m:Ls->Hd->Option (List Int × Hd)):ME:=λ ls hd=>(m ls hd).bind λ p=>some (.im (.int p.1.length),p.2)
theorem Tc{t:TE}{m:Ls->Hd->Option (List Int × Hd)}(h:RNG (Ww K) t m):RE K (NX t) (Kj m):=by
  intro ρ σ H hd ls Q d hd' hR hL hm hQ
  obtain⟨⟨a,h1⟩,e1,hm⟩:=Option.bind_eq_some_iff.mp hm
  cases hm
  refine h ρ σ H hd ls _ a h1 hR hL e1 λ ρ1 H1 Da o x1 R1 nD oD hD r=>?_
  have r:o=.set (λ k=>decide (k ∈ a)) a.length:=r
  subst r
  exact⟨Da,_,_,rfl,hD,hQ ρ1 H1 _ x1 R1 (by simp[RD,RI])⟩
theorem Pw{X:Cx}:CallR X (.builtin "len") (λ xs H Q=>∃ a S n,xs=[V.ref a]/\H a=some (.set S n)/\Q (.int n) H):=by
  intro pins s σ H xs us Q I r h
  obtain⟨a,S,n,rfl,ha,q⟩:=h
  obtain⟨u,rfl,ru⟩:=Cc r
  cases ru
  obtain⟨o,es,ep,t,ho,hex,hd,_,_,hb,hf,rfl⟩:=I.hok a _ ha
  exact call_len_set ho hex hd hf (Int.lt_of_lt_of_le (Int.ofNat_lt.mpr hb) (by decide)) ⟨.int es.size,H,I.tok _,⟨_,rfl⟩,q⟩
theorem U7{X:Cx}{e:Expr}{te:TE}{p pos:Pos}(hm:X.mg "len"=none)(ha:PE X e te)(hg:Gl X "len":=by rfl)
    (he:starEach [e] X.env=[(false,eval e X.env)]:=by rfl):PE X (.Call (.Name "len" p) [e] [] pos) (NX te):=by
  exact FP (X:=X) (x:="len") (p:=p) (pos:=pos) Pw hg hm L2.bt_len (Cf ha Di he) (by decide) (by decide) he (by rfl)
variable(K:PySem.W.Frag){X:Cx}
theorem RU{elt tg iter:Expr}{ifs:List Expr}{scope:Scope}{pos p pos':Pos}{loc fr:List Str}{ix:List Nat}{wi:TI}{g:TG}{tf:TT}{te:TE}{mi:MI}{n:MG}{mf:MT}{me:ME}(hm:X.mg "len"=none)(hc:X.calm=true)(S:CSc X scope fr ix)(hi:QI K X tg iter wi mi)
    (hg:∀ s H ex,QG K (cCx X (loc ++ fr) scope s H ex) tg g n) (hf:∀ s H ex,QF K (cCx X (loc ++ fr) scope s H ex) ifs tf mf) (he:∀ s H ex,QE K (cCx X (loc ++ fr) scope s H ex) elt te me)
    (hs:∀ x,foldedSetIterable iter X.env x=pure x:=by intro _;rfl) (hgl:Gl X "len":=by rfl)
    (hst:starEach [.SetComp elt [⟨tg,iter,ifs,0⟩] scope pos] X.env=[(false,eval (.SetComp elt [⟨tg,iter,ifs,0⟩] scope pos) X.env)]:=by rfl):QE K X (.Call (.Name "len" p) [.SetComp elt [⟨tg,iter,ifs,0⟩] scope pos] [] pos') (NX (Ir (.set (λ _=>false) 0) loc.length ix wi g tf (Ke te))) (Kj (JO loc.length ix mi n mf [] (Kk me))):=
  ⟨U7 hm (Rh hc S hi.p (λ s H ex=>(hg s H ex).p) (λ s H ex=>(hf s H ex).p) (λ s H ex=>(he s H ex).p) hs) hgl hst,
   Tc (Qo hi.r (hg X.s₀ X.H₀ []).r (hf X.s₀ X.H₀ []).r (VE (he X.s₀ X.H₀ []).r))⟩
variable{a b:Expr}{ta tb:TE}{ma mb:ME}{pos:Pos}
end
end L2
namespace L2
open PySem PySem.Spec PyProof.Rows
noncomputable def WP{α:Type}(o:Option (α × Hd))(Q:α->Hd->Prop):Prop:=∃ z h,o=some (z,h)/\Q z h
noncomputable abbrev WS(m:MS)(ls:Ls)(hd:Hd)(Q:Fl->Hd->Prop):Prop:=WP (m ls hd) Q
noncomputable abbrev WE(m:ME)(ls:Ls)(hd:Hd)(Q:D->Hd->Prop):Prop:=WP (m ls hd) Q
noncomputable abbrev WT(m:MT)(ls:Ls)(hd:Hd)(Q:Bool->Hd->Prop):Prop:=WP (m ls hd) Q
noncomputable abbrev WA(m:MA)(ls:Ls)(hd:Hd)(Q:List D->Hd->Prop):Prop:=WP (m ls hd) Q
noncomputable abbrev WO(m:MO1)(ls:Ls)(hd:Hd)(Q:Option Int->Hd->Prop):Prop:=WP (m ls hd) Q
noncomputable abbrev WI(m:MI)(ls:Ls)(hd:Hd)(Q:List D × Gd->Hd->Prop):Prop:=WP (m ls hd) Q
noncomputable abbrev WF(F:List D->Hd->Option (D × Hd))(ds:List D)(hd:Hd)(Q:D->Hd->Prop):Prop:=WP (F ds hd) Q
section
variable{α β:Type}{o:Option (α × Hd)}{Q:α->Hd->Prop}{R:β->Hd->Prop}{ls:Ls}{hd:Hd}{d e:D}
theorem WP.some{z:α}{h:Hd}(q:Q z h):WP (some (z,h)) Q:=⟨z,h,rfl,q⟩
theorem WP.mono{Q':α->Hd->Prop}(h:WP o Q)(k:∀ z h,Q z h->Q' z h):WP o Q':=let ⟨z,x,e,q⟩:=h;⟨z,x,e,k z x q⟩
theorem WP.bind{f:α × Hd->Option (β × Hd)}(h:WP o λ z x=>WP (f (z,x)) R):WP (o.bind f) R:=by
  obtain⟨z,x,e,q⟩:=h
  rw[e];exact q
theorem WP.eq{z:α}{h:Hd}(e:o=Option.some (z,h))(q:Q z h):WP o Q:=⟨z,h,e,q⟩
end
section
variable{ls:Ls}{hd:Hd}{a b:MS}{ma mb mc:ME}{ta tb:MT}{m m1 m2:MA}{n:MG}{ns:MGs}{mi:MI}{d e:D}{i j:Nat}{QS:Fl->Hd->Prop}{QE:D->Hd->Prop}{QT:Bool->Hd->Prop}{QA:List D->Hd->Prop}{QO:Option Int->Hd->Prop}{QI:List D × Gd->Hd->Prop}
noncomputable def NS(b:MS)(Q:Fl->Hd->Prop):Fl->Hd->Prop
  | .nx l,h=>WS b l h Q
  | f,h=>Q f h
theorem AM(h:WS a ls hd (NS b QS)):WS (AE a b) ls hd QS:=by
  obtain⟨f,x,e,q⟩:=h
  show WP (AE a b ls hd) QS
  rw[Hf,e]
  cases f <;> first|exact q|exact⟨_,_,rfl,q⟩
theorem AH{l:Ls}{h:Hd}(q:WS b l h QS):NS b QS (.nx l) h:=q
theorem IM{h:Hd}(q:QS (.rt d) h):NS b QS (.rt d) h:=q
theorem CO(h:QS (.nx ls) hd):WS B5 ls hd QS:=⟨_,_,rfl,h⟩
theorem B9(h:WE ma ls hd λ d x=>QS (.rt d) x):WS (AZ ma) ls hd QS:=WP.bind (h.mono λ _ _ q=>WP.some q)
theorem Aq(h:WE ma ls hd λ d x=>QS (.nx (ls.set i (some d))) x):WS (AY i ma) ls hd QS:=by
  obtain⟨d,x,e,q⟩:=h
  exact⟨_,_,by simp only[GD,e,Option.bind_some,IA,Option.map_some],q⟩
theorem Kp(h:WE ma ls hd λ d x=>∃ l,n d ls x=some l/\QS (.nx l) x):WS (FS ma n) ls hd QS:=by
  obtain⟨d,x,e,l,e2,q⟩:=h
  exact⟨_,_,by simp only[GD,e,Option.bind_some,e2,Option.map_some],q⟩
theorem DI(h:WE ma ls hd λ _ x=>QS (.nx ls) x):WS (Cr ma) ls hd QS:=WP.bind (h.mono λ _ _ q=>WP.some q)
theorem X3(h:WT ta ls hd λ c x=>if c=true then WS a ls x QS else WS b ls x QS):WS (BM ta a b) ls hd QS:=by
  refine WP.bind (h.mono λ c x q=>?_)
  dsimp only
  cases c <;> simpa using q
theorem Cv(h:WT ta ls hd λ c x=>(c=true->WS a ls x QS)/\(c=false->WS b ls x QS)):WS (BM ta a b) ls hd QS:=
  X3 (h.mono λ c x q=>by cases c <;> simp_all)
theorem Fj{ix:List Nat}(h:WA m ls hd λ ds x=>ds.length=ix.length/\QS (.nx ((ix.zip ds).foldl (λ l q=>l.set q.1 (some q.2)) ls)) x):WS (FR ix m) ls hd QS:=by
  obtain⟨d,x,e,q,q2⟩:=h
  exact⟨_,_,by simp only[WZ,e,Option.bind_some,q,if_true],q2⟩
noncomputable def WL(n:MG)(b:MS)(g:Gd)(ds:List D)(ls:Ls)(hd:Hd)(Q:Fl->Hd->Prop):Prop:=WP (Br n b g ds ls hd) Q
theorem Cw(h:WI mi ls hd λ p x=>WL n b p.2 p.1 ls x QS):WS (Cq mi n b) ls hd QS:=WP.bind (h.mono λ _ _ q=>q)
noncomputable def X5(g:Gd)(P:Ls->Hd->Prop)(Q:Fl->Hd->Prop):Fl->Hd->Prop
  | .nx l,h=>GOk h g/\P l h
  | .ct l,h=>GOk h g/\P l h
  | .bk l,h=>Q (.nx l) h
  | .rt d,h=>Q (.rt d) h
theorem DP{g:Gd}(P:List D->Ls->Hd->Prop):∀ {ds:List D} {ls:Ls} {hd:Hd},P ds ls hd ->
    (∀ d r ls hd,P (d :: r) ls hd->∃ ls1,n d ls hd=some ls1/\WS b ls1 hd (X5 g (P r) QS))->(∀ ls hd,P [] ls hd->QS (.nx ls) hd)->WL n b g ds ls hd QS
  | [],ls,hd,h,_,z=>⟨_,_,by unfold Br;rfl,z _ _ h⟩
  | d :: r,ls,hd,h,k,z=>by
    obtain⟨ls1,e1,f,x,e2,q⟩:=k d r ls hd h
    unfold WL
    unfold Br
    rw[e1,Option.bind_some,e2,Option.bind_some]
    cases f with
    | nx l=>exact(show GOk x g/\P r l x from q).1 |> λ g1=>by dsimp only;rw[if_pos g1];exact DP P q.2 k z
    | ct l=>exact(show GOk x g/\P r l x from q).1 |> λ g1=>by dsimp only;rw[if_pos g1];exact DP P q.2 k z
    | bk l=>exact⟨_,_,rfl,q⟩
    | rt l=>exact⟨_,_,rfl,q⟩
theorem A4(h:ls[i]? = some (some d))(q:QE d hd):WE (A0 i) ls hd QE:=⟨d,hd,by rw[GC,h],q⟩
theorem As{i:I}(q:QE (.im i) hd):WE (mC i) ls hd QE:=⟨_,_,rfl,q⟩
theorem AL{f:D->D->Hd->Option (D × Hd)}(h:WE ma ls hd λ d x=>WE mb ls x λ e y=>WP (f d e y) QE):WE (mOp f ma mb) ls hd QE:=WP.bind (h.mono λ _ _ q=>WP.bind (q.mono λ _ _ q=>q))
theorem Bu(h:WA m ls hd λ ds x=>C0 ds.length/\QE (Ai ds) x):WE (CI m) ls hd QE:=WP.bind (h.mono λ ds x q=>by dsimp only;rw[if_pos q.1];exact WP.some q.2)
theorem BA(h:WA m ls hd λ ds x=>QE (.mu x.length) (x ++ [.lst ds])):WE (BF m) ls hd QE:=WP.bind (h.mono λ _ _ q=>WP.some q)
theorem CF{g:List D->Option D}(h:WA m ls hd λ ds x=>∃ d,g ds=some d/\QE d x):WE (Cp g m) ls hd QE:=by
  obtain⟨ds,x,e,d,e2,q⟩:=h
  exact⟨d,x,by simp only[Pf,e,Option.bind_some,e2,Option.map_some],q⟩
theorem Io(h:WA m ls hd λ ds x=>WE ma ls x λ e y=>∃ i d,e=.im (.int i)/\atI ds i=some d/\QE d y):WE (Lw m ma) ls hd QE:=by
  obtain⟨ds,x,e,d,y,e2,i,z,rfl,e4,q⟩:=h
  exact⟨z,y,by simp only[Wc,e,Option.bind_some,e2,e4,Option.map_some],q⟩
theorem Cj{f:List D->Hd->Option (D × Hd)}(h:WA m ls hd λ ds x=>WP (f ds x) QE):WE (mCB f m) ls hd QE:=WP.bind (h.mono λ _ _ q=>q)
theorem GJ{f:D->List D->Hd->Option (D × Hd)}(h:WE ma ls hd λ d x=>(∃ l,Az x d=some l)/\WA m ls x λ ds y=>WP (f d ds y) QE):WE (mMt f ma m) ls hd QE:=by
  obtain⟨d,x,e,⟨l,hl⟩,q⟩:=h
  unfold WE
  rw[Xp,e,Option.bind_some]
  dsimp only
  rw[hl]
  exact WP.bind (q.mono λ _ _ q=>q)
theorem DR{F:List D->Hd->Option (D × Hd)}(h:WA m ls hd λ ds x=>WF F ds x QE):WE (EA F m) ls hd QE:=WP.bind (h.mono λ _ _ q=>q)
theorem OS(h:WE ma ls hd λ d x=>∃ i,d=.im (.int i)/\QE (.im (.int (-i))) x):WE (HW ma) ls hd QE:=by
  obtain⟨d,x,e,i,rfl,q⟩:=h
  exact⟨_,x,by simp only[Wa,e,Option.bind_some],q⟩
theorem CC(h:WE ma ls hd λ d x=>∃ b,d=.im (.bl b)/\QT b x):WT (Ak ma) ls hd QT:=by
  obtain⟨d,x,e,b,rfl,q⟩:=h
  exact⟨b,x,by simp only[NE,e,Option.bind_some],q⟩
theorem Gs(h:WE ma ls hd λ d x=>∃ b,Eh x d=some b/\QT b x):WT (GU ma) ls hd QT:=by
  obtain⟨d,x,e,b,e2,q⟩:=h
  exact⟨b,x,by simp only[WW,e,Option.bind_some,e2,Option.map_some],q⟩
theorem Gu(h:WT ta ls hd λ c x=>QT (!c) x):WT (Jt ta) ls hd QT:=WP.bind (h.mono λ _ _ q=>WP.some q)
theorem Ik(h:WT ta ls hd λ c x=>if c=true then WT tb ls x QT else QT false x):WT (Jw ta tb) ls hd QT:=by
  refine WP.bind (h.mono λ c x q=>?_)
  dsimp only
  cases c
  . exact WP.some (by simpa using q)
  . simpa using q
theorem KY(h:WT ta ls hd λ c x=>if c=true then QT true x else WT tb ls x QT):WT (mOr ta tb) ls hd QT:=by
  refine WP.bind (h.mono λ c x q=>?_)
  dsimp only
  cases c
  . simpa using q
  . exact WP.some (by simpa using q)
theorem B6(h:QT true hd):WT BL ls hd QT:=⟨_,_,rfl,h⟩
theorem AB(h:QA [] hd):WA AC ls hd QA:=⟨_,_,rfl,h⟩
theorem A6(h:WE ma ls hd λ d x=>WA m ls x λ ds y=>QA (d :: ds) y):WA (A5 ma m) ls hd QA:=WP.bind (h.mono λ _ _ q=>WP.bind (q.mono λ _ _ q=>WP.some q))
theorem Cy(h:WA m ls hd λ ds x=>C0 ds.length/\QA ds x):WA (DV m) ls hd QA:=WP.bind (h.mono λ ds x q=>by dsimp only;rw[if_pos q.1];exact WP.some q.2)
theorem Sz{k:Int}(e:m ls hd=some ([.im (.int k)],hd))(hk:Kf k)(q:QA (Ao 0 k.toNat) hd):WA (Ia m) ls hd QA:=⟨_,_,by simp only[WY,e,Option.bind_some,hk,if_true],q⟩
theorem OU{ml mh:MO1}(h:WE ma ls hd λ d x=>WO ml ls x λ l y=>WO mh ls y λ u z=>∃ ds,Az z d=some ds/\QA (EH ds l u) z):WA (GV ma ml mh) ls hd QA:=by
  obtain⟨d,x,e,l,y,e2,u,z,e3,ds,e4,q⟩:=h
  exact⟨_,z,by simp only[WX,e,Option.bind_some,e2,e3,e4],q⟩
theorem SE(h:QO none hd):WO Dg ls hd QO:=⟨_,_,rfl,h⟩
theorem Mj(h:WE ma ls hd λ d x=>∃ i,d=.im (.int i)/\QO (some i) x):WO (Ev ma) ls hd QO:=by
  obtain⟨d,x,e,i,rfl,q⟩:=h
  exact⟨_,x,by simp only[UU,e,Option.bind_some],q⟩
theorem FG(h:WA m ls hd λ ds x=>∃ k,ds=[.im (.int k)]/\HD k/\QI (Ao 0 k.toNat,[]) x):WI (Ek m) ls hd QI:=by
  obtain⟨ds,x,e,k,rfl,c,q⟩:=h
  exact⟨_,x,by simp only[Wd,e,Option.bind_some,c,if_true],q⟩
theorem Ka(h:WA m ls hd λ ds x=>∃ j k,ds=[.im (.int j),.im (.int k)]/\Nf j k/\QI (Ao j (k - j).toNat,[]) x):WI (JN m) ls hd QI:=by
  obtain⟨ds,x,e,j,k,rfl,c,q⟩:=h
  exact⟨_,x,by simp only[UX,e,Option.bind_some,c,if_true],q⟩
theorem Ds(h:WE ma ls hd λ d x=>∃ ds,Ad d=some ds/\QI (ds,[]) x):WI (BS ma) ls hd QI:=by
  obtain⟨d,x,e,ds,e2,q⟩:=h
  exact⟨_,x,by simp only[JX,e,Option.bind_some,e2,Option.map_some],q⟩
theorem NP(h:WA m ls hd λ ds x=>QI (ds,[]) x):WI (Lx m) ls hd QI:=by
  obtain⟨ds,x,e,q⟩:=h
  exact⟨_,x,by simp only[Wf,e,Option.map_some],q⟩
theorem DQ(h:WE ma ls hd λ d x=>∃ k ds,d=.mu k/\x[k]? = some (.lst ds)/\QI (ds,[(k,ds)]) x):WI (Ca ma) ls hd QI:=by
  obtain⟨d,x,e,k,ds,rfl,e2,q⟩:=h
  exact⟨_,x,by simp only[We,e,Option.bind_some,e2],q⟩
theorem B8{k:Nat}{ix:List Nat}(h:WI mi ls hd λ p x=>C0 p.1.length/\WP (B3 n ta ma p.2 p.1 (Dh k ix ls) x) QA):WA (BG k ix mi n ta ma) ls hd QA:=WP.bind (h.mono λ p x q=>by dsimp only;rw[if_pos q.1];exact q.2)
theorem Kv{g:Gd}(P:List D->List D->Ls->Hd->Prop):∀ {ds es:List D} {ls:Ls} {hd:Hd},P ds es ls hd ->
    (∀ d r es ls hd,P (d :: r) es ls hd->∃ ls1,n d ls hd=some ls1/\WT ta ls1 hd λ c x=>if c=true then WE ma ls1 x λ z y=>GOk y g/\P r (es ++ [z]) ls1 y else GOk x g/\P r es ls1 x) ->
    WP (B3 n ta ma g ds ls hd) λ zs x=>∃ ls',P [] (es ++ zs) ls' x
  | [],es,ls,hd,h,k=>⟨_,_,by unfold B3;rfl,ls,by simpa using h⟩
  | d :: r,es,ls,hd,h,k=>by
    obtain⟨ls1,e1,c,x,e2,q⟩:=k d r es ls hd h
    unfold B3
    rw[e1,Option.bind_some,e2,Option.bind_some]
    cases c with
    | true=>
      rw[if_pos rfl]at q ⊢
      obtain⟨z,y,e3,g3,p3⟩:=q
      obtain⟨zs,y2,e4,ls',p4⟩:=Kv P p3 k
      rw[e3,Option.bind_some]
      dsimp only
      rw[if_pos g3,e4]
      exact⟨z :: zs,y2,rfl,ls',by simpa using p4⟩
    | false=>
      rw[if_neg Bool.false_ne_true]at q ⊢
      dsimp only
      rw[if_pos q.1]
      exact Kv P q.2 k
theorem Dz{i j:Int}(q:QE (.im (.int (i + j))) hd):WP (BI (.im (.int i)) (.im (.int j)) hd) QE:=⟨_,_,by simp,q⟩
theorem Gv{i j:Int}(q:QE (.im (.int (i - j))) hd):WP (Hz (.im (.int i)) (.im (.int j)) hd) QE:=⟨_,_,by simp,q⟩
theorem Dy{i j:Int}(c:CU i j)(q:QE (.im (.int (i * j))) hd):WP (Cg (.im (.int i)) (.im (.int j)) hd) QE:=⟨_,_,by simp[c],q⟩
theorem Uk{i j:Int}(c:CV j)(q:QE (.im (.int (i % j))) hd):WP (FT (.im (.int i)) (.im (.int j)) hd) QE:=⟨_,_,by simp[c],q⟩
theorem GI{i j:Int}(q:QE (.im (.bl (decide (i < j)))) hd):WP (gLt (.im (.int i)) (.im (.int j)) hd) QE:=⟨_,_,by simp,q⟩
theorem NN{i j:Int}(q:QE (.im (.bl (decide (i <= j)))) hd):WP (gLe (.im (.int i)) (.im (.int j)) hd) QE:=⟨_,_,by simp,q⟩
theorem KZ{i j:Int}(q:QE (.im (.bl (decide (j < i)))) hd):WP (gGt (.im (.int i)) (.im (.int j)) hd) QE:=⟨_,_,by simp,q⟩
theorem NO{i j:Int}(q:QE (.im (.bl (decide (j <= i)))) hd):WP (gGe (.im (.int i)) (.im (.int j)) hd) QE:=⟨_,_,by simp,q⟩
theorem Fk{i j:Int}(q:QE (.im (.bl (decide (i=j)))) hd):WP (gEq (.im (.int i)) (.im (.int j)) hd) QE:=⟨_,_,by simp,q⟩
theorem Gx{i j:Int}(q:QE (.im (.bl (!decide (i=j)))) hd):WP (gNe (.im (.int i)) (.im (.int j)) hd) QE:=⟨_,_,by simp,q⟩
theorem Ks{i j:Str}(q:QE (.im (.bl (decide (i=j)))) hd):WP (gEq (.im (.str i)) (.im (.str j)) hd) QE:=⟨_,_,by simp,q⟩
theorem Gw{i j:Str}(q:QE (.im (.bl (!decide (i=j)))) hd):WP (gNe (.im (.str i)) (.im (.str j)) hd) QE:=⟨_,_,by simp,q⟩
theorem Ah{i:Int}{ds:List D}(e1:B2 hd d=some ds)(e2:atI ds i=some e)(q:QE e hd):WP (gIx d (.im (.int i)) hd) QE:=⟨_,_,by rw[Sh,e1,Option.bind_some,e2];rfl,q⟩
theorem Jf{i j:Int}(q:QE (.im (.int (max i j))) hd):WP (Gg [.im (.int i),.im (.int j)] hd) QE:=⟨_,_,rfl,by have:(if j > i then j else i)=max i j:=(by split <;> omega);rw[this];exact q⟩
theorem Hl{i j:Int}(q:QE (.im (.int (min i j))) hd):WP (JW [.im (.int i),.im (.int j)] hd) QE:=⟨_,_,rfl,by have:(if j < i then j else i)=min i j:=(by split <;> omega);rw[this];exact q⟩
theorem Er{tp:Bool}{g:List D->Option D}{ds:List D}{z:D}(e1:(if tp then B2 hd d else Az hd d)=some ds)(e2:g ds=some z)(q:QE z hd):WP (f1 tp g [d] hd) QE:=⟨_,_,by rw[Si,e1,Option.bind_some,e2];rfl,q⟩
theorem FF{k:Nat}{x:D}{ds:List D}(e1:hd[k]? = some (.lst ds))(c:Ex ds.length)(q:QE (.im .non) (hd.set k (.lst (ds ++ [x])))):WP (Bz (.mu k) [x] hd) QE:=⟨_,_,by rw[Wj,e1];simp only[c,if_true],q⟩
theorem Je(h:WE mc ls hd λ p x=>WE ma ls x λ q y=>WE mb ls y λ r z=>∃ w i j ds,q=.mu w/\r=.im (.int i)/\z[w]? = some (.lst ds)/\ixN ds.length i=some j/\QS (.nx ls) (z.set w (.lst (ds.set j p)))):WS (E9 ma mb mc) ls hd QS:=by
  obtain⟨p,x,e1,q,y,e2,r,z,e3,w,i,j,ds,rfl,rfl,e5,c,qq⟩:=h
  exact⟨_,_,by simp only[UW,e1,Option.bind_some,e2,e3,e5,c,Option.map_some],qq⟩
theorem BP{k n:Nat}{m:MS}{ds:List D}{Q:D->Hd->Prop}(hl:ds.length=k)(h:WS m (ds.map some ++ List.replicate (n - k) none) hd λ f x=>match f with
    | .rt d=>Q d x
    | .nx _=>Q (.im .non) x
    | _=>False):WF (mkF k n m) ds hd Q:=by
  obtain⟨f,x,e,q⟩:=h
  unfold WF mkF
  rw[if_pos hl,e]
  cases f with
  | nx l=>exact⟨_,_,rfl,q⟩
  | rt l=>exact⟨_,_,rfl,q⟩
  | bk l=>exact q.elim
  | ct l=>exact q.elim
theorem AV{F:List D->Hd->Option (D × Hd)}(h:WA m ls hd λ ds x=>BT 0 ds=true/\WF F ds [] λ d _=>∃ i,d=.im i/\QE (.im i) x):WE (AK 0 F m) ls hd QE:=by
  obtain⟨ds,x,e,c,d,y,e2,i,rfl,q⟩:=h
  exact⟨_,_,Fc e c e2,q⟩
end
structure Tap(T:Nat->MO->MO->Prop)(P:List D->Hd->Option (D × Hd)):Prop where
  cl:∀ {k:Nat} {a b:MO},T k a b->clO 2 a=true/\clO 2 b=true
  le:∀ {j k:Nat} {a b:MO},T k a b->j <= k->T j a b
  pick:∀ {k:Nat} {a b:MO} {many:Int},T (k + 1) a b->0 < many->many < 1073741824->∃ r a' b',0 <= r/\r < many/\P [.mu 1,.im (.int many)] [a,b]=some (.im (.int r),[a',b'])/\T k a' b'
section
variable{T:Nat->MO->MO->Prop}{P:List D->Hd->Option (D × Hd)}{a b:MO}{rest:Hd}{ls:Ls}{m:MA}{QE:D->Hd->Prop}{n c:Nat}
theorem Tap.draw(t:Tap T P)(hT:T (n + 1) a b){many:Int}{hd:Hd}(e:m ls hd=some ([.mu 1,.im (.int many)],a :: b :: rest))(h0:0 < many)(h1:many < 1073741824)
    (k:∀ r a' b',T n a' b'->0 <= r->r < many->QE (.im (.int r)) (a' :: b' :: rest)):WE (AK 2 P m) ls hd QE:=by
  obtain⟨r,a',b',p1,p2,e2,hT'⟩:=t.pick hT h0 h1
  refine⟨_,_,MR (w:=2) (ds:=[.mu 1,.im (.int many)]) (pre:=[a,b]) (pre':=[a',b']) (rest:=rest) (g:=[]) rfl rfl e (by simp) ?_ ?_ (by simpa using e2),k r a' b' hT' p1 p2⟩
  . simp[t.cl hT]
  . simp[t.cl hT']
end
end L2
namespace L2
open PySem PySem.Spec PyProof.Rows
section
variable{K:PySem.W.Frag}{ρ ρ':List Addr}{H H':Hp}{hd hd':Hd}
noncomputable def GL(w:Nat)(ls:Ls):Ls:=ls.map λ o=>match o with
  | some d=>if clD w d=true then some d else none
  | none=>none
noncomputable def GM(w:Nat):Fl->Option Fl
  | .nx ls=>some (.nx (GL w ls))
  | .bk ls=>some (.bk (GL w ls))
  | .ct ls=>some (.ct (GL w ls))
  | .rt d=>if clD w d=true then some (.rt d)else none
noncomputable def JK(w:Nat)(m:MS):MS:=λ ls hd=>if hd.length <= w then(m ls hd).bind λ p=>if(p.2.take w).all (clO w)=true then(GM w p.1).map λ f=>(f,p.2.take w)else none else none
theorem RL.trim{ls:Ls}{σ:St}(h:RL K ρ H ls σ)(w:Nat):RL K (ρ.take w) H (GL w ls) σ:=by
  refine⟨by simp[GL,h.len],λ i d e=>?_⟩
  unfold GL at e
  rw[List.getElem?_map]at e
  cases q:ls[i]? with
  | none=>rw[q]at e;cases e
  | some o=>
    rw[q]at e
    cases o with
    | none=>simp at e
    | some z=>
      simp only[Option.map_some,Option.some.injEq]at e
      split at e
      . next c=>
        cases e
        obtain⟨v,e1,e2⟩:=h.ob i _ q
        exact⟨v,e1,e2.take w c⟩
      . cases e
theorem Ext.trim(x:Ext ρ H ρ' H'){w:Nat}(h:ρ.length <= w):Ext ρ H (ρ'.take w) H':=by
  obtain⟨r,rfl,fr⟩:=x.pre
  refine⟨⟨r.take (w - ρ.length),?_,λ b hb=>fr b (List.mem_of_mem_take hb)⟩,x.keep,x.tab⟩
  rw[List.take_append,List.take_of_length_le h]
theorem TB{t:TS}{m:MS}(w:Nat)(h:RS K t m):RS K t (JK w m):=by
  intro ρ σ H hd ls E f hd' hR hL hm hQ
  unfold JK at hm
  split at hm
  . next hw=>
    obtain⟨⟨f1,h1⟩,e1,hm⟩:=Option.bind_eq_some_iff.mp hm
    dsimp only at hm
    split at hm
    . next c=>
      obtain⟨f2,e2,e3⟩:=Option.map_eq_some_iff.mp hm
      cases e3
      refine h ρ σ H hd ls E f1 h1 hR hL e1 λ ρ1 H1 x1 R1=>?_
      have q:=hQ (ρ1.take w) H1 (x1.trim (by rw[hR.len];exact hw)) (R1.take w c)
      cases f1 with
      | nx l=>simp only[GM,Option.some.injEq]at e2;subst e2;exact λ σ' L=>q σ' (L.trim w)
      | bk l=>simp only[GM,Option.some.injEq]at e2;subst e2;exact λ σ' L=>q σ' (L.trim w)
      | ct l=>simp only[GM,Option.some.injEq]at e2;subst e2;exact λ σ' L=>q σ' (L.trim w)
      | rt d=>
        simp only[GM]at e2
        split at e2
        . next c2=>cases e2;exact λ v r=>q v (r.take w c2)
        . cases e2
    . cases hm
  . cases hm
theorem Su{w:Nat}{m:MS}{ls:Ls}{Q:Fl->Hd->Prop}(hw:hd.length <= w)(h:WS m ls hd λ f x=>(x.take w).all (clO w)=true/\∃ f',GM w f=some f'/\Q f' (x.take w)):WS (JK w m) ls hd Q:=by
  obtain⟨f,x,e,c,f',e2,q⟩:=h
  exact⟨f',x.take w,by unfold JK;rw[if_pos hw,e,Option.bind_some];dsimp only;rw[if_pos c,e2];rfl,q⟩
noncomputable def HU(m:MS):MS:=λ ls hd=>JK hd.length m ls hd
theorem Qk{t:TS}{m:MS}(h:RS K t m):RS K t (HU m):=λ ρ σ H hd ls E f hd' hR hL hm hQ=>TB hd.length h ρ σ H hd ls E f hd' hR hL hm hQ
theorem KB(K:PySem.W.Frag){X:Cx}{st:List Stmt}{t:TS}{m:MS}(h:QSs K X st t m):QSs K X st t (HU m):=⟨h.p,Qk h.r⟩
theorem Ko{m:MS}{ls:Ls}{Q:Fl->Hd->Prop}(h:WS m ls hd λ f x=>(x.take hd.length).all (clO hd.length)=true/\∃ f',GM hd.length f=some f'/\Q f' (x.take hd.length)):WS (HU m) ls hd Q:=Su (Nat.le_refl _) h
noncomputable def Xg:ME:=λ _ hd=>some (.mu hd.length,hd ++ [.dic []])
theorem Jg{ls:Ls}{Q:D->Hd->Prop}(q:Q (.mu hd.length) (hd ++ [.dic []])):WE Xg ls hd Q:=⟨_,_,rfl,q⟩
end
mutual
theorem MJ{v w:Nat}(h:v <= w):∀ {d:D},clD v d=true->clD w d=true
  | .im i,_=>by simp
  | .mu n,c=>by simp at c ⊢;omega
  | .tm ds,c=>by rw[clD]at c ⊢;exact Hi h c
  | .ro ns,_=>by rw[clD]
theorem Hi{v w:Nat}(h:v <= w):∀ {ds:List D},BT v ds=true->BT w ds=true
  | [],_=>by simp
  | d :: ds,c=>by
    simp only[Pq,Bool.and_eq_true]at c ⊢
    exact⟨MJ h c.1,Hi h c.2⟩
end
theorem KN{v w:Nat}(h:v <= w):∀ {ds:List (Key × D)},Gi v ds=true->Gi w ds=true
  | [],_=>by simp[Gi]
  | d :: ds,c=>by
    simp only[Gi,Bool.and_eq_true]at c ⊢
    exact⟨MJ h c.1,KN h c.2⟩
theorem SA{v w:Nat}(h:v <= w){o:MO}(c:clO v o=true):clO w o=true:=by
  cases o with
  | lst ds=>exact Hi h c
  | dic ds=>exact KN h c
section
variable{T:Nat->MO->MO->Prop}{P:List D->Hd->Option (D × Hd)}{a b:MO}{rest:Hd}{ls:Ls}{m:MA}{QE:D->Hd->Prop}
theorem Tap.callX(t:Tap T P){n c:Nat}(hT:T (n + c) a b)(ex:Hd){w:Nat}{F:List D->Hd->Option (D × Hd)}{as:List D}{hd:Hd}{R:I->Prop}(e:m ls hd=some (.mu 1 :: as,a :: b :: (ex ++ rest)))(hw:w=ex.length + 2)(ha:BT w as=true)(hx:ex.all (clO w)=true)
    (hF:∀ a b,T (n + c) a b->WF F (.mu 1 :: as) (a :: b :: ex) λ d x=>∃ i a' b' g,d=.im i/\R i/\T n a' b'/\x=a' :: b' :: (ex ++ g))
    (k:∀ i a' b',T n a' b'->R i->QE (.im i) (a' :: b' :: (ex ++ rest))):WE (AK w F m) ls hd QE:=by
  subst hw
  have hcl:∀ o,clO 2 o=true->clO (ex.length + 2) o=true:=λ o h=>SA (by omega) h
  obtain⟨d,x,e2,i,a',b',g,rfl,hR,hT',rfl⟩:=hF a b hT
  refine⟨_,_,MR (w:=ex.length + 2) (ds:=.mu 1 :: as) (pre:=a :: b :: ex) (pre':=a' :: b' :: ex) (rest:=rest) (g:=g) rfl rfl e (by simp[ha]) ?_ ?_ e2,k i a' b' hT' hR⟩
  . simp[hcl _ (t.cl hT).1,hcl _ (t.cl hT).2];simpa using hx
  . simp[hcl _ (t.cl hT').1,hcl _ (t.cl hT').2];simpa using hx
theorem Tap.call(t:Tap T P){n c:Nat}(hT:T (n + c) a b){F:List D->Hd->Option (D × Hd)}{as:List D}{hd:Hd}{R:I->Prop}(e:m ls hd=some (.mu 1 :: as,a :: b :: rest))(ha:BT 2 as=true)
    (hF:∀ a b,T (n + c) a b->WF F (.mu 1 :: as) [a,b] λ d x=>∃ i a' b' g,d=.im i/\R i/\T n a' b'/\x=a' :: b' :: g)
    (k:∀ i a' b',T n a' b'->R i->QE (.im i) (a' :: b' :: rest)):WE (AK 2 F m) ls hd QE:=
  t.callX hT [] (w:=2) e rfl ha rfl hF k
end
end L2
namespace L2
open PySem PySem.Spec PyProof.Rows
section
variable{ls:Ls}{hd:Hd}{b:MS}{c:MT}{Q:Fl->Hd->Prop}{QE:D->Hd->Prop}
noncomputable def X4(P:Ls->Hd->Prop)(Q:Fl->Hd->Prop):Fl->Hd->Prop
  | .nx l,h=>P l h
  | .ct l,h=>P l h
  | .bk l,h=>Q (.nx l) h
  | .rt d,h=>Q (.rt d) h
theorem Kn(P:Nat->Ls->Hd->Prop){n:Nat}(h:P n ls hd)
    (k:∀ n ls hd,P n ls hd->WT c ls hd λ t x=>if t=true then WS b ls x (X4 (λ l y=>∃ m,m < n/\P m l y) Q)else Q (.nx ls) x):WS (EZ c b) ls hd Q:=by
  have go:∀ n ls hd,P n ls hd->∃ j r,Bk c b j ls hd=some r/\Q r.1 r.2:=by
    intro n
    induction n using Nat.strongRecOn with
    | ind n ih=>
      intro ls hd h
      obtain⟨t,x,e1,q⟩:=k n ls hd h
      cases t with
      | false=>
        rw[if_neg Bool.false_ne_true]at q
        exact⟨1,(.nx ls,x),by unfold Bk;rw[e1];rfl,q⟩
      | true=>
        rw[if_pos rfl]at q
        obtain⟨f,y,e2,q⟩:=q
        cases f with
        | nx l=>
          obtain⟨m,hm,p⟩:=q
          obtain⟨j,r,e3,q3⟩:=ih m hm l y p
          exact⟨j + 1,r,by unfold Bk;rw[e1,Option.bind_some,if_pos rfl,e2];exact e3,q3⟩
        | ct l=>
          obtain⟨m,hm,p⟩:=q
          obtain⟨j,r,e3,q3⟩:=ih m hm l y p
          exact⟨j + 1,r,by unfold Bk;rw[e1,Option.bind_some,if_pos rfl,e2];exact e3,q3⟩
        | bk l=>exact⟨1,(.nx l,y),by unfold Bk;rw[e1,Option.bind_some,if_pos rfl,e2];rfl,q⟩
        | rt d=>exact⟨1,(.rt d,y),by unfold Bk;rw[e1,Option.bind_some,if_pos rfl,e2];rfl,q⟩
  obtain⟨j,⟨f,x⟩,e,q⟩:=go n ls hd h
  exact⟨f,x,PQ e,q⟩
theorem Q8{k j:Nat}{i:Int}{ds:List D}{z:D}(e1:hd[k]? = some (.lst ds))(hr:HD i)(e2:ixN ds.length i=some j)(e3:ds[j]? = some z)(q:QE z (hd.set k (.lst (ds.eraseIdx j)))):WP (He (.mu k) [.im (.int i)] hd) QE:=⟨_,_,by rw[S5,e1];simp[hr,e2,e3],q⟩
end
end L2
namespace Bd
open PySem L2
@[reducible] noncomputable def m_steps_at:MS:=(AE (AY 2 (mC (.int 0)))
    (AE (Cq (BS (A0 0)) (Bh 2 (AO (AG 3) (AO (AG 4) Bi)))
      (AE (BM (Ak (mOp gGt (A0 3) (A0 1)))
      (AZ (A0 2))
      B5)
    (AY 2 (A0 4))))
    (AZ (A0 2))))
noncomputable def F_steps_at:List D->Hd->Option (D × Hd):=mkF 2 5 m_steps_at
@[reducible] noncomputable def m_cost_at:MS:=(AE (AY 2 (mOp gIx (A0 0) (mC (.int 0))))
    (AE (BM (Ak (mOp gEq (A0 2) (mC (.str "steps"))))
      (AZ (AK 0 F_steps_at (A5 (mOp gIx (A0 0) (mC (.int 1))) (A5 (A0 1) AC))))
      B5)
    (AE (BM (Ak (mOp gEq (A0 2) (mC (.str "ends"))))
      (AZ (mOp Cg (mOp gIx (A0 0) (mC (.int 1))) (A0 1)))
      B5)
    (AE (AY 3 (mOp Hz (A0 1) (mOp gIx (A0 0) (mC (.int 1)))))
    (AE (BM (Ak (mOp gEq (A0 2) (mC (.str "late"))))
      (AZ (A0 3))
      B5)
    (AE (BM (Ak (mOp gLe (A0 3) (mC (.int 0))))
      (AZ (mC (.int 0)))
      B5)
    (AE (BM (Ak (mOp gEq (A0 2) (mC (.str "tardy"))))
      (AZ (mOp Cg (mOp gIx (A0 0) (mC (.int 2))) (A0 3)))
      B5)
    (AZ (mOp gIx (A0 0) (mC (.int 2)))))))))))
noncomputable def F_cost_at:List D->Hd->Option (D × Hd):=mkF 2 4 m_cost_at
@[reducible] noncomputable def m_costs_of:MS:=(AZ (Cp Bo (BG 2 [] (HQ (BS (A0 0)) (BS (A0 1))) (Bh 2 (AO (AG 0) (AO (AG 1) Bi))) BL (AK 0 F_cost_at (A5 (mOp gIx (A0 0) (mC (.int 2))) (A5 (A0 1) AC))))))
noncomputable def F_costs_of:List D->Hd->Option (D × Hd):=mkF 2 2 m_costs_of
@[reducible] noncomputable def m_worth:MS:=(AE (AY 3 (AK 0 F_costs_of (A5 (A0 0) (A5 (A0 1) AC))))
    (AE (BM (Ak (mOp gEq (A0 2) (mC (.str "greatest"))))
      (AZ (mCB (f1 true Rt) (A5 (A0 3) AC)))
      B5)
    (AZ (mCB (f1 true Em) (A5 (A0 3) AC)))))
noncomputable def F_worth:List D->Hd->Option (D × Hd):=mkF 3 4 m_worth
@[reducible] noncomputable def m_run:MS:=(AE (AY 2 (BF (DV AC)))
    (AE (AY 3 (mC (.int 0)))
    (AE (Cq (BS (A0 1)) (AG 4)
      (AE (FS (mOp gIx (A0 0) (A0 4)) (Bh 3 (AO (AG 5) (AO (AG 6) (AO (AG 7) Bi)))))
    (AE (AY 8 (mCB Gg (A5 (A0 6) (A5 (A0 3) AC))))
    (AE (AY 3 (mOp BI (A0 8) (A0 5)))
    (Cr (mMt Bz (A0 2) (A5 (CI (A5 (A0 4) (A5 (A0 8) (A5 (A0 3) AC)))) AC)))))))
    (AZ (mCB (f1 true Bo) (A5 (A0 2) AC))))))
noncomputable def F_run:List D->Hd->Option (D × Hd):=mkF 2 9 m_run
@[reducible] noncomputable def m_ends_of:MS:=(AE (AY 2 (BF (BG 1 [] (BS (A0 0)) (AG 0) BL (mC (.int 0)))))
    (AE (Cq (BS (A0 1)) (Bh 3 (AO (AG 3) (AO (AG 4) (AO (AG 5) Bi))))
      (E9 (A0 2) (A0 3) (A0 5)))
    (AZ (mCB (f1 true Bo) (A5 (A0 2) AC)))))
noncomputable def F_ends_of:List D->Hd->Option (D × Hd):=mkF 2 6 m_ends_of
end Bd
namespace Bd
open PySem L2
structure Tp where
  cells:List Int
  nx:Int
  lf:Int
  tn:Int
noncomputable def Kb(t:Tp):List (Key × D):=[(.inr "cells",.mu 0),(.inr "next",.im (.int t.nx)),(.inr "left",.im (.int t.lf)),(.inr "turn",.im (.int t.tn))]
noncomputable def tp(t:Tp):Hd:=[.lst (t.cells.map λ i=>.im (.int i)),.dic (Kb t)]
@[simp] theorem Yk(t:Tp):(tp t).length=2:=rfl
@[simp] theorem ZV(t:Tp)(r:Hd):(tp t ++ r)[0]? = some (.lst (t.cells.map λ i=>.im (.int i))):=rfl
@[simp] theorem ZU(t:Tp)(r:Hd):(tp t ++ r)[1]? = some (.dic (Kb t)):=rfl
@[simp] theorem tp0(t:Tp):(tp t)[0]? = some (.lst (t.cells.map λ i=>.im (.int i))):=rfl
@[simp] theorem tp1(t:Tp):(tp t)[1]? = some (.dic (Kb t)):=rfl
section
variable(t:Tp)(v:Int)
@[simp] theorem Ym:(Kb t).length=4:=rfl
end
theorem FO:∀ ns:List Int,I.pys (ns.map I.int)=ns.map PyData.int
  | []=>by simp[I.pys]
  | n :: ns=>by simp[I.pys,I.py,FO ns]
theorem FA(ns:List Int):BZ (ns.map λ i=>D.im (.int i))=some (ns.map I.int):=by
  have:(ns.map λ i=>D.im (.int i))=(ns.map I.int).map D.im:=by rw[List.map_map];rfl
  rw[this];exact Q2 _
theorem Ua(ns:List Int):PyData.eqv (.list (ns.map PyData.int)) (.list [])=decide (ns=[]):=by
  cases ns <;> simp[PyData.eqv,PyData.eqvAll]
theorem Rr(ns:List Int):(PyData.list (ns.map PyData.int)).canLay0=true:=by simp[PyData.canLay0,IK]
theorem GE(ns:List Int)(hd:Hd)(neg:Bool):MB neg (.list (ns.map PyData.int)) (.list []) hd=some (.im (.bl (if neg then !decide (ns=[])else decide (ns=[]))),hd):=by
  unfold MB
  rw[if_pos,Ua]
  refine⟨Rr ns,by simp[PyData.canLay0,PyData.canLayAll0],?_⟩
  have:(PyData.list []).depth <= 1:=by simp[PyData.depth,PyData.depthAll]
  omega
end Bd
namespace Bd
open PySem L2
theorem Eu{x:Int}(m:Int)(h:0 < m):0 <= x % m/\x % m < m:=⟨Int.emod_nonneg _ (by omega),Int.emod_lt_of_pos _ h⟩
theorem Wr(hd:Hd)(neg:Bool):MB neg (.list []) (.list []) hd=some (.im (.bl (if neg then false else true)),hd):=by
  have:=GE [] hd neg
  simpa using this
theorem Xt{xs:List Int}(h:xs ≠ [])(n:Int):∃ c,atI (xs.map λ i=>D.im (.int i)) (n % (xs.length:Int))=some (.im (.int c)):=by
  have hl:0 < xs.length:=G4 h
  obtain⟨a,b⟩:=Eu (x:=n) (xs.length:Int) (by omega)
  obtain⟨k,hk⟩:=Int.eq_ofNat_of_zero_le a
  have hk':k < xs.length:=by omega
  exact⟨xs[k],EI hk (by simp[hk'])⟩
theorem po1:Np 10 18:=by unfold Np;decide
end Bd
namespace Bd
open PySem L2
inductive Cost where
  | late (d:Int)|tardy (d w:Int)|miss (d w:Int)|ends (w:Int)|steps (rows:List (Int × Int))
noncomputable def IQ(r:Int × Int):I:=.tup [.int r.1,.int r.2]
noncomputable def DN:Cost->I
  | .late d=>.tup [.str "late",.int d]
  | .tardy d w=>.tup [.str "tardy",.int d,.int w]
  | .miss d w=>.tup [.str "miss",.int d,.int w]
  | .ends w=>.tup [.str "ends",.int w]
  | .steps rows=>.tup [.str "steps",.tup (rows.map IQ)]
noncomputable def ED(t:Int):List (Int × Int)->Int->Int
  | [],told=>told
  | (b,a) :: r,told=>if t < b then told else ED t r a
noncomputable def Cost.at:Cost->Int->Int
  | .late d,t=>t - d
  | .tardy d w,t=>if t - d <= 0 then 0 else w * (t - d)
  | .miss d w,t=>if t - d <= 0 then 0 else w
  | .ends w,t=>w * t
  | .steps rows,t=>ED t rows 0
noncomputable def Cost.wok:Cost->Prop
  | .tardy _ w=>0 <= w/\w <= 1000000
  | .miss _ w=>0 <= w/\w <= 1000000
  | .ends w=>0 <= w/\w <= 1000000
  | _=>True
theorem n1:¬ (("late":Str)="steps"):=by decide +kernel
theorem n2:¬ (("tardy":Str)="steps"):=by decide +kernel
theorem n3:¬ (("miss":Str)="steps"):=by decide +kernel
theorem n4:¬ (("ends":Str)="steps"):=by decide +kernel
theorem n5:¬ (("late":Str)="ends"):=by decide +kernel
theorem n6:¬ (("tardy":Str)="ends"):=by decide +kernel
theorem n7:¬ (("miss":Str)="ends"):=by decide +kernel
theorem n8:¬ (("tardy":Str)="late"):=by decide +kernel
theorem n9:¬ (("miss":Str)="late"):=by decide +kernel
theorem n10:¬ (("miss":Str)="tardy"):=by decide +kernel
theorem n12:¬ (("steps":Str)="late"):=by decide +kernel
theorem Ix(t:Int)(z:D)(hd:Hd):∀ (rows:List (Int × Int)) (told:Int) (x y:Option D),∃ fl x' y',Br (Bh 2 (AO (AG 3) (AO (AG 4) Bi))) (AE (BM (Ak (mOp gGt (A0 3) (A0 1))) (AZ (A0 2)) B5) (AY 2 (A0 4))) [] ((rows.map IQ).map .im)
      [some z,some (.im (.int t)),some (.im (.int told)),x,y] hd=some (fl,hd)/\(fl=.rt (.im (.int (ED t rows told))) ∨ fl=.nx [some z,some (.im (.int t)),some (.im (.int (ED t rows told))),x',y'])
  | [],told,x,y=>⟨_,x,y,Ic,.inr rfl⟩
  | (b,a) :: rows,told,x,y=>by
    by_cases h:t < b
    . refine⟨_,x,y,Ro (ls1:=[some z,some (.im (.int t)),some (.im (.int told)),some (.im (.int b)),some (.im (.int a))]) (by simp[IQ]) (v:=.im (.int told)) (hd2:=hd) ?_,.inl ?_⟩
      . simp[h]
      . simp[ED,h]
    . obtain⟨fl,x',y',e,q⟩:=Ix t z hd rows a (some (.im (.int b))) (some (.im (.int a)))
      refine⟨fl,x',y',?_,?_⟩
      . rw[<- e]
        refine HX (ls1:=[some z,some (.im (.int t)),some (.im (.int told)),some (.im (.int b)),some (.im (.int a))]) (by simp[IQ]) ?_ (Ab _)
        simp[h]
      . simpa [ED,h]using q
theorem Mc(rows:List (Int × Int))(t:Int):F_steps_at [.im (.tup (rows.map IQ)),.im (.int t)] []=some (.im (.int (ED t rows 0)),[]):=by
  obtain⟨fl,x',y',e,q⟩:=Ix t (.im (.tup (rows.map IQ))) [] rows 0 none none
  rcases q with rfl|rfl
  . simp[F_steps_at,mkF]at e ⊢
    simp[e]
  . simp[F_steps_at,mkF]at e ⊢
    simp[e]
theorem OE(c:Cost)(t:Int)(h:c.wok):F_cost_at [.im (DN c),.im (.int t)] []=some (.im (.int (c.at t)),[]):=by
  cases c with
  | late d=>simp[F_cost_at,mkF,DN,n1,n5,Cost.at]
  | tardy d w=>
    have b1:∀ j,CU w j:=λ j=>Bb (by obtain⟨a,b⟩:=h;omega) (by obtain⟨a,b⟩:=h;omega)
    by_cases q:t - d <= 0
    . simp[F_cost_at,mkF,DN,n2,n6,n8,Cost.at,q]
    . simp[F_cost_at,mkF,DN,n2,n6,n8,Cost.at,q,b1]
  | miss d w=>
    by_cases q:t - d <= 0
    . simp[F_cost_at,mkF,DN,n3,n7,n9,Cost.at,q]
    . simp[F_cost_at,mkF,DN,n3,n7,n9,n10,Cost.at,q]
  | ends w=>
    have b1:∀ j,CU w j:=λ j=>Bb (by obtain⟨a,b⟩:=h;omega) (by obtain⟨a,b⟩:=h;omega)
    simp[F_cost_at,mkF,DN,n4,Cost.at,b1]
  | steps rows=>
    have:=Fc (m:=A5 (mOp gIx (A0 0) (mC (.int 1))) (A5 (A0 1) AC)) (ls:=[some (.im (DN (.steps rows))),some (.im (.int t)),some (.im (.str "steps")),none]) (hd:=[]) (hd1:=[]) (F:=F_steps_at) (ds:=[.im (.tup (rows.map IQ)),.im (.int t)]) (by simp[DN]) (by simp) (Mc rows t)
    simp[DN]at this
    simp[F_cost_at,mkF,DN,Cost.at,this]
end Bd
namespace Bd
open PySem L2
@[simp high] theorem ZT(t:Tp)(x:MO)(r:Hd):(tp t ++ (x :: r))[2]? = some x:=rfl
@[simp high] theorem ZS(t:Tp)(x y:MO)(r:Hd):(tp t ++ (x :: y :: r))[3]? = some y:=rfl
@[simp high] theorem ZR(t:Tp)(x y z:MO)(r:Hd):(tp t ++ (x :: y :: z :: r))[4]? = some z:=rfl
@[simp high] theorem Z6(t:Tp)(x y:MO)(r:Hd):(tp t ++ (x :: r)).set 2 y=tp t ++ (y :: r):=rfl
@[simp high] theorem Z5(t:Tp)(x y z:MO)(r:Hd):(tp t ++ (x :: y :: r)).set 3 z=tp t ++ (x :: z :: r):=rfl
theorem Pp(w:Nat)(ns:List Int):BT w (ns.map λ i=>D.im (.int i))=true:=by induction ns <;> simp_all [BT,clD]
end Bd
namespace Bd
open PySem L2
structure Wk where
  len:Int
  com:Int
  cost:Cost
noncomputable def Bj(w:Wk):I:=.tup [.int w.len,.int w.com,DN w.cost]
noncomputable abbrev DO(ws:List Wk):I:=.tup (ws.map Bj)
end Bd
namespace L2
theorem MD{α:Type}{n:MG}{c:MT}{m:ME}{g:Gd}{hd:Hd}(hg:GOk hd g)(f:α->D)(k:α->Option D):∀ {xs:List α} {ls:Ls} (P:Ls->Prop),P ls ->
    (∀ x ∈ xs,∀ ls,P ls->∃ ls1,n (f x) ls hd=some ls1/\P ls1/\((k x=none/\c ls1 hd=some (false,hd)) ∨ ∃ z,k x=some z/\c ls1 hd=some (true,hd)/\m ls1 hd=some (z,hd)))->B3 n c m g (xs.map f) ls hd=some (xs.filterMap k,hd)
  | [],ls,P,h,_=>by unfold B3;rfl
  | x :: r,ls,P,h,q=>by
    obtain⟨ls1,e1,p1,q1⟩:=q x List.mem_cons_self ls h
    have ih:=MD hg f k (xs:=r) (ls:=ls1) P p1 λ d hd ls hp=>q d (List.mem_cons_of_mem _ hd) ls hp
    rw[List.map_cons]
    unfold B3
    rcases q1 with⟨kn,c1⟩|⟨z,kz,c1,m1⟩
    . simp[e1,c1,hg,ih,kn]
    . simp[e1,c1,m1,hg,ih,kz]
theorem MF{α:Type}{n:MG}{m:ME}{g:Gd}{hd:Hd}(hg:GOk hd g)(f:α->D)(k:α->D){xs:List α}{ls:Ls}(P:Ls->Prop)(h:P ls)
    (q:∀ x ∈ xs,∀ ls,P ls->∃ ls1,n (f x) ls hd=some ls1/\P ls1/\m ls1 hd=some (k x,hd)):B3 n BL m g (xs.map f) ls hd=some (xs.map k,hd):=by
  have:=MD (c:=BL) hg f (λ x=>some (k x)) (xs:=xs) P h λ x hx ls hp=>by
    obtain⟨ls1,e1,p1,e2⟩:=q x hx ls hp
    exact⟨ls1,e1,p1,.inr ⟨_,rfl,rfl,e2⟩⟩
  rw[this]
  simp
end L2
namespace Bd
open PySem L2
noncomputable abbrev GY(es:List Int):I:=.tup (es.map I.int)
noncomputable def Dl(ws:List Wk)(es:List Int):List Int:=List.zipWith (λ w e=>w.cost.at e) ws es
theorem OP(ws:List Wk)(es:List Int):List.zipWith (λ x y=>Ai [x,y]) ((ws.map Bj).map D.im) ((es.map I.int).map D.im)=(List.zip ws es).map λ p=>D.im (.tup [Bj p.1,.int p.2]):=by
  induction ws generalizing es with
  | nil=>simp
  | cons w ws ih=>
    cases es with
    | nil=>simp
    | cons e es=>simp only[List.map_cons,List.zipWith_cons_cons,List.zip_cons_cons,UF,ih]
theorem OD(ws:List Wk)(es:List Int):(List.zip ws es).map (λ p=>p.1.cost.at p.2)=Dl ws es:=by
  unfold Dl
  rw[List.zip_eq_zipWith,List.map_zipWith]
theorem NA(ns:List Int):(ns.map λ i=>D.im (.int i))=(ns.map I.int).map D.im:=by rw[List.map_map];rfl
theorem JG(ns:List Int):Ai (ns.map λ i=>D.im (.int i))=.im (GY ns):=by rw[NA];exact CZ _
theorem Mg(ws:List Wk)(es:List Int)(h:∀ w ∈ ws,w.cost.wok)(hl:ws.length <= 1000):F_costs_of [.im (DO ws),.im (GY es)] []=some (.im (GY (Dl ws es)),[]):=by
  have hz:C0 (List.zip ws es).length:=An (by simp;omega)
  have hc:=MF (hd:=[]) (n:=Bh 2 (AO (AG 0) (AO (AG 1) Bi))) (m:=AK 0 F_cost_at (A5 (mOp gIx (A0 0) (mC (.int 2))) (A5 (A0 1) AC))) (Ab []) (λ p:Wk × Int=>D.im (.tup [Bj p.1,.int p.2])) (λ p=>.im (.int (p.1.cost.at p.2))) (xs:=List.zip ws es) (ls:=[none,none]) (λ ls=>ls.length=2) rfl λ p hp ls hls=>by
    match ls,hls with
    | [a,b],_=>
      refine⟨[some (.im (Bj p.1)),some (.im (.int p.2))],by simp,rfl,?_⟩
      exact Fc (ds:=[.im (DN p.1.cost),.im (.int p.2)]) (by simp[Bj]) (by simp) (OE p.1.cost p.2 (h p.1 (List.of_mem_zip hp).1))
  have hi:List.map (λ p:Wk × Int=>D.im (.int (p.1.cost.at p.2))) (List.zip ws es)=(Dl ws es).map λ i=>D.im (.int i):=by rw[<- OD,List.map_map];rfl
  have gk:GOk [] []:=Ab []
  simp only[F_costs_of,mkF,m_costs_of,Pb,Pf,NF,HQ,JX,GC,List.map_cons,List.map_nil,List.length_cons,List.length_nil,List.cons_append,List.nil_append,List.replicate,Nat.reduceAdd,Nat.reduceSub,if_true,List.getElem?_cons_zero,List.getElem?_cons_succ,Option.bind_some,Ky,Option.map_some,gk,OP,List.length_map,hz,Dh,List.append_nil]
  rw[hc,hi]
  simp[Bo,JG]
theorem Xk:¬ (("sum":Str)="greatest"):=by decide +kernel
theorem OR(ws:List Wk)(es:List Int)(h:∀ w ∈ ws,w.cost.wok)(hl:ws.length <= 1000):F_worth [.im (DO ws),.im (GY es),.im (.str "sum")] []=some (.im (.int (Dl ws es).sum),[]):=by
  have e:=Fc (m:=A5 (A0 0) (A5 (A0 1) AC)) (ls:=[some (.im (DO ws)),some (.im (GY es)),some (.im (.str "sum")),none]) (hd:=[]) (F:=F_costs_of) (ds:=[.im (DO ws),.im (GY es)]) (hd1:=[]) (by simp) (by simp) (Mg ws es h hl)
  have k:(BY ((Dl ws es).map I.int |>.map D.im))=some (Dl ws es):=by rw[<- NA];exact Hc _
  simp only[F_worth,mkF,m_worth,Hf,GD,List.map_cons,List.map_nil,List.length_cons,List.length_nil,List.cons_append,List.nil_append,List.replicate,Nat.reduceAdd,Nat.reduceSub,if_true]
  rw[e]
  simp only[Option.bind_some,IA,Option.map_some,List.set_cons_succ,List.set_cons_zero,Wg,NE,Sg,GC,List.getElem?_cons_zero,List.getElem?_cons_succ,Wi,UY,Wh,if_true,Xk,decide_false,UV,Pb,Xq,UZ,Pd,Si,OZ,Em,k,if_false,Bool.false_eq_true]
noncomputable def CH(p:Nat × Int × Int):I:=.tup [.int p.1,.int p.2.1,.int p.2.2]
noncomputable def DJ(ws:List Wk):List Nat->Int->List (Nat × Int × Int)
  | [],_=>[]
  | k :: r,e=>match ws[k]? with
    | some w=>(k,(if e > w.com then e else w.com),(if e > w.com then e else w.com) + w.len) :: DJ ws r ((if e > w.com then e else w.com) + w.len)
    | none=>[]
noncomputable abbrev CM(ks:List Nat):I:=.tup (ks.map λ k:Nat=>.int k)
theorem Rn{α:Type}(ws:List α):ws.map (λ _=>D.im (.int 0))=(List.replicate ws.length 0).map λ i=>D.im (.int i):=by induction ws <;> simp_all [List.replicate_succ]
noncomputable abbrev Mp:MS:=(AE (FS (mOp gIx (A0 0) (A0 4)) (Bh 3 (AO (AG 5) (AO (AG 6) (AO (AG 7) Bi)))))
    (AE (AY 8 (mCB Gg (A5 (A0 6) (A5 (A0 3) AC))))
    (AE (AY 3 (mOp BI (A0 8) (A0 5)))
    (Cr (mMt Bz (A0 2) (A5 (CI (A5 (A0 4) (A5 (A0 8) (A5 (A0 3) AC)))) AC))))))
theorem LP(ws:List Wk)(o:D):∀ (ks:List Nat) (e:Int) (ps:List (Nat × Int × Int)) (a b c d f:Option D),(∀ k ∈ ks,k < ws.length)->ps.length + ks.length <= 1000->∃ e' a' b' c' d' f',Br (AG 4) Mp [] (ks.map λ k:Nat=>.im (.int k))
      [some (.im (DO ws)),some o,some (.mu 0),some (.im (.int e)),a,b,c,d,f] [.lst (ps.map λ p=>.im (CH p))]=some (.nx [some (.im (DO ws)),some o,some (.mu 0),e',a',b',c',d',f'],[.lst ((ps ++ DJ ws ks e).map λ p=>.im (CH p))])
  | [],e,ps,a,b,c,d,f,_,_=>⟨_,a,b,c,d,f,by simp[DJ,Ic];rfl⟩
  | k :: ks,e,ps,a,b,c,d,f,h,hl=>by
    have hk:=h k List.mem_cons_self
    have hw:ws[k]? = some ws[k]:=by simp[hk]
    generalize ws[k]=w at hw
    obtain⟨e',a',b',c',d',f',q⟩:=LP ws o ks ((if e > w.com then e else w.com) + w.len) (ps ++ [(k,(if e > w.com then e else w.com),(if e > w.com then e else w.com) + w.len)]) (some (.im (.int k))) (some (.im (.int w.len))) (some (.im (.int w.com))) (some (.im (DN w.cost))) (some (.im (.int (if e > w.com then e else w.com)))) (λ k hk=>h k (List.mem_cons_of_mem _ hk)) (by simp at hl ⊢;omega)
    refine⟨e',a',b',c',d',f',?_⟩
    have hp:Ex ps.length:=Cs (by simp at hl;omega)
    have at1:atI ((ws.map Bj).map D.im) (k:Int)=some (.im (Bj w)):=EI rfl (by simp[hw])
    rw[show DJ ws (k :: ks) e=(k,(if e > w.com then e else w.com),(if e > w.com then e else w.com) + w.len) :: DJ ws ks ((if e > w.com then e else w.com) + w.len) by rw[DJ,hw]]
    rw[List.append_assoc]at q
    rw[List.singleton_append]at q
    rw[<- q,List.map_cons]
    refine HX (ls1:=[some (.im (DO ws)),some o,some (.mu 0),some (.im (.int e)),some (.im (.int k)),b,c,d,f]) rfl ?_ (Ab _)
    simp only[Mp,Hf,GD,Sg,GC,List.getElem?_cons_zero,List.getElem?_cons_succ,Option.bind_some,Sh,OZ,at1,Option.map_some]
    simp[Bj,hp,CH]
theorem V2(ws:List Wk)(ks:List Nat)(h:∀ k ∈ ks,k < ws.length)(hl:ks.length <= 1000):∃ g,F_run [.im (DO ws),.im (CM ks)] []=some (.im (.tup ((DJ ws ks 0).map CH)),g):=by
  obtain⟨e',a',b',c',d',f',q⟩:=LP ws (.im (CM ks)) ks 0 [] none none none none none h (by simpa using hl)
  have tt:∀ ps:List (Nat × Int × Int),Ai (ps.map λ p=>D.im (CH p))=.im (.tup (ps.map CH)):=λ ps=>by
    have:(ps.map λ p=>D.im (CH p))=(ps.map CH).map D.im:=by rw[List.map_map];rfl
    rw[this];exact CZ _
  have kk:(ks.map λ k:Nat=>I.int k).map D.im=ks.map λ k:Nat=>D.im (.int k):=by rw[List.map_map];rfl
  simp only[List.map_nil,List.nil_append]at q
  refine⟨[.lst ((DJ ws ks 0).map λ p=>.im (CH p))],?_⟩
  simp only[F_run,mkF,m_run,Hf,GD,Pe,Wb,Pd,Wi,Ph,JX,GC,List.map_cons,List.map_nil,List.length_cons,List.length_nil,List.cons_append,List.nil_append,List.replicate,Nat.reduceAdd,Nat.reduceSub,if_true,Option.bind_some,DX,IA,Option.map_some,List.set_cons_succ,List.set_cons_zero,List.getElem?_cons_zero,List.getElem?_cons_succ,Ky,kk]
  rw[q]
  simp[Bo,tt]
noncomputable def Cd(es:List Int):List (Nat × Int × Int)->List Int
  | []=>es
  | p :: r=>Cd (es.set p.1 p.2.2) r
theorem Pj(ps:List (Nat × Int × Int)):∀ es,(Cd es ps).length=es.length:=by
  induction ps with
  | nil=>intro es;rfl
  | cons p r ih=>intro es;rw[Cd,ih];simp
theorem KM(w o:D):∀ (ps:List (Nat × Int × Int)) (es:List Int) (a b c:Option D),(∀ p ∈ ps,p.1 < es.length)->∃ a' b' c',Br (Bh 3 (AO (AG 3) (AO (AG 4) (AO (AG 5) Bi)))) (E9 (A0 2) (A0 3) (A0 5)) [] (ps.map λ p=>.im (CH p))
      [some w,some o,some (.mu 0),a,b,c] [.lst (es.map λ i=>.im (.int i))]=some (.nx [some w,some o,some (.mu 0),a',b',c'],[.lst ((Cd es ps).map λ i=>.im (.int i))])
  | [],es,a,b,c,_=>⟨a,b,c,Ic⟩
  | (k,x,y) :: ps,es,a,b,c,h=>by
    obtain⟨a',b',c',q⟩:=KM w o ps (es.set k y) (some (.im (.int k))) (some (.im (.int x))) (some (.im (.int y))) (λ p hp=>by simpa using h p (List.mem_cons_of_mem _ hp))
    refine⟨a',b',c',?_⟩
    have hk:k < es.length:=h _ List.mem_cons_self
    have ix:ixN es.length (k:Int)=some k:=by unfold ixN;rw[if_pos (by omega),if_pos (by omega)];simp
    rw[show Cd es ((k,x,y) :: ps)=Cd (es.set k y) ps from rfl,<- q,List.map_cons]
    refine HX (ls1:=[some w,some o,some (.mu 0),some (.im (.int k)),some (.im (.int x)),some (.im (.int y))]) (by simp[CH]) ?_ (Ab _)
    simp[ix]
theorem OA(ws:List Wk)(ps:List (Nat × Int × Int))(h:∀ p ∈ ps,p.1 < ws.length)(hl:ws.length <= 1000):∃ g,F_ends_of [.im (DO ws),.im (.tup (ps.map CH))] []=some (.im (GY (Cd (List.replicate ws.length 0) ps)),g):=by
  obtain⟨a',b',c',q⟩:=KM (.im (DO ws)) (.im (.tup (ps.map CH))) ps (List.replicate ws.length 0) none none none (λ p hp=>by simpa using h p hp)
  have hz:C0 ws.length:=An (by omega)
  have hc:=MF (hd:=[]) (n:=AG 0) (m:=mC (.int 0)) (Ab []) (λ w:Wk=>D.im (Bj w)) (λ _=>.im (.int 0)) (xs:=ws) (ls:=[none]) (λ ls=>ls.length=1) rfl λ w hw ls hls=>by
    match ls,hls with
    | [a],_=>exact⟨[some (.im (Bj w))],rfl,rfl,rfl⟩
  have hr:=Rn ws
  have w1:(ws.map Bj).map D.im=ws.map λ w=>D.im (Bj w):=by rw[List.map_map];rfl
  have p1:(ps.map CH).map D.im=ps.map λ p=>D.im (CH p):=by rw[List.map_map];rfl
  rw[hr]at hc
  refine⟨[.lst ((Cd (List.replicate ws.length 0) ps).map λ i=>.im (.int i))],?_⟩
  simp only[F_ends_of,mkF,m_ends_of,Hf,GD,Pe,NF,JX,GC,Ph,List.map_cons,List.map_nil,List.length_cons,List.length_nil,List.cons_append,List.nil_append,List.replicate,Nat.reduceAdd,Nat.reduceSub,if_true,List.getElem?_cons_zero,List.getElem?_cons_succ,Option.bind_some,Ky,Option.map_some,w1,p1,List.length_map,hz,Dh,List.append_nil,hc,IA,List.set_cons_succ,List.set_cons_zero]
  rw[q]
  simp[Bo,JG]
end Bd
namespace L2
open PySem PySem.Spec PyProof.Rows
end L2
namespace Bd
open PySem L2
end Bd
namespace Bd
open PySem L2
theorem S7(ns:List Int)(lo hi:Option Int):∃ cs:List Int,EH (ns.map λ n=>.im (.int n)) lo hi=cs.map λ n=>.im (.int n):=⟨(ns.drop _).take _,by unfold EH;rw[List.map_take,List.map_drop]⟩
end Bd
namespace Bd
open PySem L2
noncomputable abbrev Ag(ks:List Nat):List D:=ks.map λ k:Nat=>D.im (.int (k:Int))
theorem UQ{n:Nat}{i:Int}(a:0 <= i)(b:i < n):ixN n i=some i.toNat:=by unfold ixN;rw[if_pos a,if_pos b]
theorem JE:∀ {a:List Nat} {k x:Nat},a[k]? = some x->(x :: a.eraseIdx k).Perm a
  | [],k,x,h=>by simp at h
  | y :: r,0,x,h=>by simp at h;subst h;exact .refl _
  | y :: r,k + 1,x,h=>by
    have ih:=JE (a:=r) (k:=k) (x:=x) (by simpa using h)
    exact(List.Perm.swap y x _).trans (ih.cons y)
theorem KL{α β:Type}(f:α->β):∀ (l:List α) (k:Nat),(l.map f).eraseIdx k=(l.eraseIdx k).map f
  | [],k=>rfl
  | y :: r,0=>rfl
  | y :: r,k + 1=>by simp[KL f r k]
theorem P3{a b:List Nat}{k x:Nat}(h:a[k]? = some x):(b ++ [x] ++ a.eraseIdx k).Perm (b ++ a):=by
  rw[List.append_assoc]
  exact List.Perm.append_left b (JE h)
end Bd
namespace Bd
open PySem L2
theorem W5{seq:List Nat}{i a:Nat}(h:seq[i]? = some a):atI (Ag seq) (i:Int)=some (.im (.int (a:Int))):=EI rfl (by simp[h])
end Bd
namespace Bd
open PySem L2
theorem J3(n:Nat):Ao 0 n=Ag (List.range n):=by
  refine List.ext_getElem? λ i=>?_
  by_cases h:i < n
  . rw[J5 h];simp[h]
  . rw[List.getElem?_eq_none (by simp;omega),List.getElem?_eq_none (by simp;omega)]
end Bd
namespace Bd
open PySem L2
noncomputable abbrev intD(xs:List Int):List D:=xs.map λ x=>D.im (.int x)
theorem PZ(xs:List Int):Dk (intD xs)=some (xs.map V.int):=by
  induction xs with
  | nil=>rfl
  | cons x r ih=>simp[Dk,Gc]at ih ⊢;exact ih
theorem Ry(x:Int)(xs:List Int):inV (.int x) (xs.map V.int)=decide (x ∈ xs):=by
  unfold inV
  induction xs with
  | nil=>simp
  | cons y r ih=>
    simp only[List.map_cons,List.any_cons,ih,List.mem_cons]
    have:eqV (V.int y) (V.int x)=decide (x=y):=by
      unfold eqV
      by_cases h:x=y
      . subst h;simp
      . have h':¬ y=x:=λ z=>h z.symm
        simp[h,h']
    rw[this,Bool.decide_or]
theorem in_ints{hd:Hd}{d:D}{xs:List Int}(x:Int)(neg:Bool)(h:B2 hd d=some (intD xs)):gIn neg (.im (.int x)) d hd=some (.im (.bl (if neg then !decide (x ∈ xs)else decide (x ∈ xs))),hd):=by
  simp only[gIn,Gc,Option.bind_some,h,PZ,Option.map_some,Ry]
theorem g0(hd:Hd)(x y:MO):(hd ++ [x,y])[hd.length]? = some x:=by simp
theorem g1(hd:Hd)(x y:MO):(hd ++ [x,y])[hd.length + 1]? = some y:=by simp
theorem t1(hd:Hd)(x y z:MO):(hd ++ [x,y]).set (hd.length + 1) z=hd ++ [x,z]:=by simp
end Bd
namespace L2
open PySem PySem.Spec PyProof.Rows
section
variable{ls:Ls}{hd:Hd}{QE:D->Hd->Prop}{QI:List D × Gd->Hd->Prop}{ma:ME}{n:MG}{ta:MT}{mi:MI}{m:MA}
theorem Ul{d:D}{xs:List Int}{x:Int}{neg:Bool}(e1:B2 hd d=some (Bd.intD xs))(q:QE (.im (.bl (if neg then !decide (x ∈ xs)else decide (x ∈ xs)))) hd):WP (gIn neg (.im (.int x)) d hd) QE:=WP.eq (Bd.in_ints x neg e1) q
theorem Up(h:WE ma ls hd λ d x=>(∃ is,d=.im (.tup is)/\QI (is.map .im,[]) x) ∨ ∃ k ds,d=.mu k/\x[k]? = some (.lst ds)/\QI (ds,[(k,ds)]) x):WI (Ff ma) ls hd QI:=by
  obtain⟨d,x,e,h⟩:=h
  rcases h with⟨is,rfl,q⟩|⟨k,ds,rfl,e2,q⟩
  . exact⟨_,_,UR e,q⟩
  . exact⟨_,_,WK e e2,q⟩
theorem Sy{mm:Ls->Hd->Option (List Int × Hd)}(h:WP (mm ls hd) λ l x=>QE (.im (.int l.length)) x):WE (Kj mm) ls hd QE:=WP.bind (h.mono λ _ _ q=>WP.some q)
theorem QB{α:Type}{k:Nat}{ix:List Nat}{a0:α}{me:MM α}{Q:α->Hd->Prop}(h:WI mi ls hd λ p x=>WP (mGo n ta me p.2 p.1 (Dh k ix ls) x a0) Q):WP (JO k ix mi n ta a0 me ls hd) Q:=WP.bind (h.mono λ _ _ q=>q)
theorem Kt{α:Type}{me:MM α}{g:Gd}{Q:α->Hd->Prop}(P:List D->α->Ls->Hd->Prop):∀ {ds:List D} {a:α} {ls:Ls} {hd:Hd},P ds a ls hd ->
    (∀ d r a ls hd,P (d :: r) a ls hd->∃ ls1,n d ls hd=some ls1/\WT ta ls1 hd λ c x=>if c=true then WP (me ls1 x a) λ a' y=>GOk y g/\P r a' ls1 y else GOk x g/\P r a ls1 x) ->
    (∀ a ls hd,P [] a ls hd->Q a hd)->WP (mGo n ta me g ds ls hd a) Q
  | [],a,ls,hd,h,k,z=>⟨_,_,by unfold mGo;rfl,z _ _ _ h⟩
  | d :: r,a,ls,hd,h,k,z=>by
    obtain⟨ls1,e1,c,x,e2,q⟩:=k d r a ls hd h
    unfold mGo
    rw[e1,Option.bind_some,e2,Option.bind_some]
    cases c with
    | true=>
      rw[if_pos rfl]at q ⊢
      obtain⟨a',y,e3,g3,p3⟩:=q
      rw[e3,Option.bind_some]
      dsimp only
      rw[if_pos g3]
      exact Kt P p3 k z
    | false=>
      rw[if_neg Bool.false_ne_true]at q ⊢
      dsimp only
      rw[if_pos q.1]
      exact Kt P q.2 k z
theorem SG{g:Gd}{QA:List D->Hd->Prop}(P:List D->List D->Ls->Hd->Prop){ds:List D}{ls:Ls}{hd:Hd}(h:P ds [] ls hd)
    (k:∀ d r es ls hd,P (d :: r) es ls hd->∃ ls1,n d ls hd=some ls1/\WT ta ls1 hd λ c x=>if c=true then WE ma ls1 x λ z y=>GOk y g/\P r (es ++ [z]) ls1 y else GOk x g/\P r es ls1 x)
    (z:∀ es ls hd,P [] es ls hd->QA es hd):WP (B3 n ta ma g ds ls hd) QA:=
  (Kv P h k).mono λ zs x ⟨ls',q⟩=>z zs ls' x (by simpa using q)
theorem C1{α:Type}{g:Gd}{QA:List D->Hd->Prop}(inj:α->D)(f:α->Option D)(L:D->Ls->Prop)(l0:Ls){xs:List α}{hd:Hd}(hg:GOk hd g)
    (k:∀ x ∈ xs,∀ ls,ls=l0 ∨ (∃ d,L d ls)->∃ ls1,n (inj x) ls hd=some ls1/\L (inj x) ls1/\WT ta ls1 hd λ c y=>y=hd/\if c=true then ∃ z,f x=some z/\WE ma ls1 hd λ e y=>y=hd/\e=z else f x=none)
    (q:QA (xs.filterMap f) hd):WP (B3 n ta ma g (xs.map inj) l0 hd) QA:=by
  have go:∀ (xs':List α) (ls:Ls),(∀ x ∈ xs',x ∈ xs)->(ls=l0 ∨ ∃ d,L d ls)->B3 n ta ma g (xs'.map inj) ls hd=some (xs'.filterMap f,hd):=by
    intro xs'
    induction xs' with
    | nil=>intro ls _ _;unfold B3;rfl
    | cons x r ih=>
      intro ls hs hl
      obtain⟨ls1,e1,L1,c,y,e2,rfl,q⟩:=k x (hs x List.mem_cons_self) ls hl
      have ih:=ih ls1 (λ z hz=>hs z (List.mem_cons_of_mem _ hz)) (.inr ⟨_,L1⟩)
      rw[List.map_cons]
      unfold B3
      rw[e1,Option.bind_some,e2,Option.bind_some]
      cases c with
      | true=>
        rw[if_pos rfl]at q
        obtain⟨z,ez,e,y,e3,rfl,rfl⟩:=q
        rw[if_pos rfl,e3,Option.bind_some]
        dsimp only
        rw[if_pos hg,ih,List.filterMap_cons,ez]
        rfl
      | false=>
        rw[if_neg Bool.false_ne_true]at q
        rw[if_neg Bool.false_ne_true]
        dsimp only
        rw[if_pos hg,ih,List.filterMap_cons,q]
  exact⟨_,_,go xs l0 (λ _ h=>h) (.inl rfl),q⟩
end
end L2
namespace L2
open PySem PySem.Spec PyProof.Rows
mutual
noncomputable def shD(k:Nat):D->D
  | .im i=>.im i
  | .mu n=>.mu (n + k)
  | .tm ds=>.tm (Fe k ds)
  | .ro ns=>.ro ns
noncomputable def Fe(k:Nat):List D->List D
  | []=>[]
  | d :: ds=>shD k d :: Fe k ds
end
noncomputable def LK(k:Nat):List (Key × D)->List (Key × D)
  | []=>[]
  | d :: ds=>(d.1,shD k d.2) :: LK k ds
noncomputable def shO(k:Nat):MO->MO
  | .lst ds=>.lst (Fe k ds)
  | .dic kvs=>.dic (LK k kvs)
section
variable{K:PySem.W.Frag}{ρ ρ':List Addr}{H H':Hp}{hd hd':Hd}
mutual
theorem RD.shift(ρ1:List Addr):∀ {d:D} {v:V},RD K ρ H d v->RD K (ρ1 ++ ρ) H (shD ρ1.length d) v
  | .im i,v,h=>by simp only[RD,shD]at h ⊢;exact h
  | .mu n,v,h=>by
    simp only[RD,shD]at h ⊢
    obtain⟨a,e,q⟩:=h
    exact⟨a,by rw[List.getElem?_append_right (by omega),Nat.add_sub_cancel];exact e,q⟩
  | .tm ds,v,h=>by
    simp only[RD,shD]at h ⊢
    obtain⟨a,xs,e,q,z⟩:=h
    exact⟨a,xs,e,q,RDs.shift ρ1 z⟩
  | .ro ns,v,h=>by simp only[RD,shD]at h ⊢;exact h
theorem RDs.shift(ρ1:List Addr):∀ {d:List D} {v:List V},RDs K ρ H d v->RDs K (ρ1 ++ ρ) H (Fe ρ1.length d) v
  | [],v,h=>by simpa only[RDs,Fe]using h
  | d :: ds,v,h=>by
    simp only[RDs,Fe]at h ⊢
    obtain⟨x,r',e,q,z⟩:=h
    exact⟨x,r',e,q.shift ρ1,RDs.shift ρ1 z⟩
end
theorem RKs.shift(ρ1:List Addr):∀ {d:List (Key × D)} {v:List (Key × V)},RKs K ρ H d v->RKs K (ρ1 ++ ρ) H (LK ρ1.length d) v
  | [],v,h=>by simpa only[RKs,LK]using h
  | d :: ds,v,h=>by
    simp only[RKs,LK]at h ⊢
    obtain⟨x,r',e,q1,q,z⟩:=h
    exact⟨x,r',e,q1,q.shift ρ1,RKs.shift ρ1 z⟩
theorem RC.shift(ρ1:List Addr){o:MO}{ho:HO}(h:RC K ρ H o ho):RC K (ρ1 ++ ρ) H (shO ρ1.length o) ho:=by
  cases o with
  | lst ds=>obtain⟨xs,e,q⟩:=h;exact⟨xs,e,q.shift ρ1⟩
  | dic ds=>obtain⟨xs,e,q⟩:=h;exact⟨xs,e,q.shift ρ1⟩
theorem RH.join{h1 h2:Hd}(R1:RH K ρ H h1)(x:Ext [] H ρ' H')(R2:RH K ρ' H' h2):RH K (ρ ++ ρ') H' (h1 ++ h2.map (shO ρ.length))/\Ext ρ H (ρ ++ ρ') H':=by
  obtain⟨r,er,fr⟩:=x.pre
  have er:ρ'=r:=by simpa using er
  subst er
  have kp:∀ b o,H b=some o->(∀ ps,o ≠ .tbl ps)->H' b=some o:=λ b o e t=>x.keep b o e (by simp) t
  have gr:Grow H H':=⟨λ b xs e=>kp b _ e nt,λ b o u e=>kp b _ e nt⟩
  refine⟨⟨by simp[R1.len,R2.len],?_,R2.tabs,λ n o a e1 e2=>?_⟩,⟨⟨ρ',rfl,fr⟩,λ b o e _ t=>kp b o e t,x.tab⟩⟩
  . rw[List.nodup_append]
    refine⟨R1.nd,R2.nd,λ a ha b hb z=>?_⟩
    subst z
    exact R1.out (fr a hb) ha
  . by_cases hn:n < ρ.length
    . rw[List.getElem?_append_left hn]at e2
      rw[List.getElem?_append_left (by rw[<- R1.len];exact hn)]at e1
      obtain⟨ho,q1,q2⟩:=R1.ob n o a e1 e2
      exact⟨ho,kp a ho q1 (λ ps z=>by rcases R1.mut (List.mem_of_getElem? e2)with⟨y,w⟩|⟨y,w⟩ <;> (rw[q1,z]at w;cases w)),q2.mono gr ρ'⟩
    . have hn':ρ.length <= n:=Nat.not_lt.mp hn
      rw[List.getElem?_append_right hn']at e2
      rw[List.getElem?_append_right (by rw[<- R1.len];exact hn'),List.getElem?_map,<- R1.len]at e1
      cases q:h2[n - ρ.length]? with
      | none=>rw[q]at e1;cases e1
      | some o2=>
        rw[q]at e1
        cases e1
        obtain⟨ho,q1,q2⟩:=R2.ob _ o2 a q e2
        exact⟨ho,q1,q2.shift ρ⟩
noncomputable def Ec(F:List D->Hd->Option (D × Hd))(ma:MA):ME:=λ ls hd=>(ma ls hd).bind λ p=>if BT 0 p.1=true then(F p.1 []).map λ r=>(shD p.2.length r.1,p.2 ++ r.2.map (shO p.2.length))else none
theorem Qy{k:Nat}{F:List D->Hd->Option (D × Hd)}{t:TA}{m:MA}(h:RA K t m)(hk:∀ ds hd z,F ds hd=some z->ds.length=k):RE K (FY (spF K k F) [] E0 t) (Ec F m):=by
  intro ρ σ H hd ls Q d hd' hR hL hm hQ
  obtain⟨⟨d1,h1⟩,e1,hm⟩:=Option.bind_eq_some_iff.mp hm
  dsimp only at hm
  split at hm
  . next c1=>
    obtain⟨⟨d2,h2⟩,e2,e3⟩:=Option.map_eq_some_iff.mp hm
    cases e3
    refine h ρ σ H hd ls _ d1 h1 hR hL e1 λ ρ1 H1 v1 x1 R1 r1=>?_
    rw[List.append_nil]
    have R0:RH K [] H1 []:=by simpa using R1.take 0 (by simp)
    have r0:RDs K [] H1 d1 v1:=by simpa using r1.take' 0 c1
    refine⟨by rw[r1.len];exact hk _ _ _ e2,[],[],d1,d2,h2,R0,r0,e2,λ ρ' H' v x2 R2 r2=>?_⟩
    obtain⟨R3,x3⟩:=R1.join x2 R2
    rw[R1.len]at R3
    refine hQ (ρ1 ++ ρ') H' v (x1.trans R1 x3) R3 ?_
    have:=r2.shift ρ1
    rw[R1.len]at this
    exact this
  . cases hm
theorem EE(K:PySem.W.Frag){X:Cx}{e:Expr}{es:List Expr}{t:TA}{m:MA}{x:Str}{j k:Nat}{f:Addr}{fd:FuncData}{ps:List Str}{n:Nat}{F:List D->Hd->Option (D × Hd)}{st:Stmt}{p pos:Pos}(G:FnOk X.prog X.w X.K X.mg X.base CX0 j f fd ps (spF K n F))(hr:Room k X.A)(DA:DefAt X.K X.mg x st f fd ps)(ha:QA K X (e :: es) t m)(hF:∀ ds hd z,F ds hd=some z->ds.length=n)
    (hjk:j <= k:=by decide) (hg:Gl X x:=by rfl) (hdb:(x == ("__debug__":Str))=false:=by decide) (he:starEach (e :: es) X.env=(false,eval e X.env) :: starEach es X.env:=by rfl) (hpl:(backTo pos (starEach es X.env)).any (·.1)=false:=by rfl) :
    QE K X (.Call (.Name x p) (e :: es) [] pos) (FY (spF K n F) [] E0 t) (Ec F m):=⟨Nr G hr DA ha.p hjk hg hdb he hpl,Qy ha.r hF⟩
end
section
variable{ls:Ls}{hd:Hd}{ma mb:ME}{m ml:MA}{QE:D->Hd->Prop}{QA:List D->Hd->Prop}
theorem GK{F:List D->Hd->Option (D × Hd)}(h:WA m ls hd λ ds x=>BT 0 ds=true/\WF F ds [] λ d y=>QE (shD x.length d) (x ++ y.map (shO x.length))):WE (Ec F m) ls hd QE:=by
  obtain⟨ds,x,e,c,d,y,e2,q⟩:=h
  exact⟨_,_,by simp only[Ec,e,Option.bind_some,c,if_true,e2,Option.map_some],q⟩
end
end L2
namespace L2
open PySem PySem.Spec PyProof.Rows
section
variable{ls:Ls}{hd:Hd}{ma:ME}{n n2:MG}{c c2:MT}{mi mi2:MI}{QE:D->Hd->Prop}
theorem Fp{k:Nat}{g:Gd}{Q:Ls->Hd->Prop}(P:List D->Ls->Hd->Prop):∀ {ds:List D} {ls:Ls} {hd:Hd},P ds ls hd ->
    (∀ d r ls hd,P (d :: r) ls hd->∃ ls1,n2 d ls hd=some ls1/\WT c2 ls1 hd λ t x=>if t=true then WE ma ls1 x λ z y=>WP (Bz (.mu k) [z] y) λ _ u=>GOk u g/\P r ls1 u else GOk x g/\P r ls1 x) ->
    (∀ ls hd,P [] ls hd->Q ls hd)->∃ l h,mIn k n2 c2 ma g ds ls hd=some (l,h)/\Q l h
  | [],ls,hd,h,_,z=>⟨_,_,by unfold mIn;rfl,z _ _ h⟩
  | d :: r,ls,hd,h,s,z=>by
    obtain⟨ls1,e1,t,x,e2,q⟩:=s d r ls hd h
    unfold mIn
    rw[e1,Option.bind_some,e2,Option.bind_some]
    cases t with
    | true=>
      rw[if_pos rfl]at q ⊢
      obtain⟨z',y,e3,w,u,e4,g4,p4⟩:=q
      rw[e3,Option.bind_some,e4,Option.bind_some]
      dsimp only
      rw[if_pos g4]
      exact Fp P p4 s z
    | false=>
      rw[if_neg Bool.false_ne_true]at q ⊢
      dsimp only
      rw[if_pos q.1]
      exact Fp P q.2 s z
theorem Fm{k:Nat}{g:Gd}{Q:Hd->Prop}(P:List D->Ls->Hd->Prop):∀ {ds:List D} {ls:Ls} {hd:Hd},P ds ls hd ->
    (∀ d r ls hd,P (d :: r) ls hd->∃ ls1,n d ls hd=some ls1/\WT c ls1 hd λ t x=>if t=true then WI mi2 ls1 x λ p y=>∃ l h,mIn k n2 c2 ma p.2 p.1 ls1 y=some (l,h)/\GOk h g/\P r l h else GOk x g/\P r ls1 x) ->
    (∀ ls hd,P [] ls hd->Q hd)->∃ h,Ej k n c mi2 n2 c2 ma g ds ls hd=some h/\Q h
  | [],ls,hd,h,_,z=>⟨_,by unfold Ej;rfl,z _ _ h⟩
  | d :: r,ls,hd,h,s,z=>by
    obtain⟨ls1,e1,t,x,e2,q⟩:=s d r ls hd h
    unfold Ej
    rw[e1,Option.bind_some,e2,Option.bind_some]
    cases t with
    | true=>
      rw[if_pos rfl]at q ⊢
      obtain⟨p,y,e3,l,h,e4,g4,p4⟩:=q
      rw[e3,Option.bind_some]
      dsimp only
      rw[e4,Option.bind_some]
      dsimp only
      rw[if_pos g4]
      exact Fm P p4 s z
    | false=>
      rw[if_neg Bool.false_ne_true]at q ⊢
      dsimp only
      rw[if_pos q.1]
      exact Fm P q.2 s z
theorem IL{j:Nat}{ix:List Nat}(h:WI mi ls hd λ p x=>∃ y,Ej x.length n c mi2 n2 c2 ma p.2 p.1 (Dh j ix ls) (x ++ [.lst []])=some y/\QE (.mu x.length) y):WE (Eb j ix mi n c mi2 n2 c2 ma) ls hd QE:=by
  obtain⟨p,x,e,y,e2,q⟩:=h
  exact⟨_,_,by rw[S6,e,Option.bind_some];dsimp only;rw[e2];rfl,q⟩
end
noncomputable abbrev blD(bs:List Bool):List D:=bs.map λ b=>D.im (.bl b)
end L2
namespace L2
open PySem PySem.Spec PyProof.Rows
section
variable{X:Cx}{pins:List (Addr × Obj)}{σ:St}{H:Hp}{s:Shared}{A:Around}{E:Value->Shared->Prop}{Q:Value->Shared->Prop}
end
section
variable{K:PySem.W.Frag}{ρ ρ':List Addr}{H H':Hp}{hd hd':Hd}
end
section
variable{ls:Ls}{hd:Hd}{ma mo mi me:ME}{QE:D->Hd->Prop}{QS:Fl->Hd->Prop}
end
end L2
namespace L2
open PySem PySem.Spec PyProof.Rows
section
variable{X:Cx}{a:Expr}{ta:TE}
end
section
variable(K:PySem.W.Frag){X:Cx}{a:Expr}{ta:TE}{ma:ME}{b:Bool}{j:_}{pos pos':Pos}
end
end L2
namespace L2
open PySem PySem.Spec PyProof.Rows
structure EAt(h:Heap)(e it l:Addr)(i:Nat):Prop where
  e:∃ old,IsEnum h e it i old
  r:h.IsListIter it l i
noncomputable def Ite(K:PySem.W.Frag)(a:Addr):It:=
  ⟨λ i H=>∃ xs x,SqL K H a xs/\xs[i]? = some x,
   λ i H x H'=>∃ p v,H p=none/\H'=upd H p (.tup [.int (i:Int),v])/\x=.ref p/\∀ xs,SqL K H a xs->xs[i]? = some v,
   λ i H=>∃ xs,SqL K H a xs/\xs.length <= i⟩
theorem OX{P:Program}{w:World}{K:PySem.W.Frag}{elts:List Expr}{kk:Nat}{tpos:Pos}{e it l:Addr}(ne:e ≠ it):Turn P w K (.Tuple elts kk tpos) (Ite K l) [e,it] e (λ i h=>EAt h e it l i) where
  mem:=by simp
  obj:=λ i h st c hc=>by
    obtain⟨⟨old,he⟩,hr⟩:=st
    simp only[List.mem_cons,List.not_mem_nil,or_false]at hc
    rcases hc with rfl|rfl
    . exact⟨_,he,λ v z=>by cases(show Data.fields _=Data.cell v from z)⟩
    . obtain⟨o,q,_,d⟩:=hr;exact⟨o,q,λ v z=>by rw[d]at z;cases z⟩
  keep:=λ i h h' st k=>by
    obtain⟨⟨old,he⟩,o,q,r⟩:=st
    exact⟨⟨old,k e (by simp) _ he⟩,o,k it (by simp) _ q,r⟩
  item:=by
    intro X hP hw hK hc i pins s σ H E I hf st hg
    subst hP hw hK
    obtain⟨xs,x,h1,hx⟩:=hg
    obtain⟨its,r,pl,hz⟩:=I.list h1
    obtain⟨u,hu,ru⟩:=r.get hx
    obtain⟨⟨old,he⟩,hr⟩:=st
    refine wpAny_pyNext_enum_item he hr pl.isList (x:=u) (by simpa using hu) ne λ g ho hr' ht hsz kp=>⟨_,rfl,?_⟩
    refine wpAny_letOwnedTupleGo_enum ho λ g' e' sb=>?_
    have hle:e < s.heap.objs.size:=Heap.lt_size he
    have kp2:∀ c o,c ∉ [e,it]->s.heap.get? c=some o->g'.get? c=some o:=λ c o nc q=>by
      simp only[List.mem_cons,List.not_mem_nil,or_false,not_or]at nc
      exact sb.extBut _ _ nc.1 (kp c o nc.1 nc.2 q)
    have hT:s.heap.objs.size ≠ e:=Nat.ne_of_gt hle
    have hpair:g'.get? s.heap.objs.size=some { cls:=.type "tuple",data:=.seq #[.int i s.toks,u] }:=sb.extBut _ _ hT ht
    have fresh:H s.heap.objs.size=none:=I.hok.fresh (Nat.le_refl _)
    have I2:Inv X pins σ (upd H s.heap.objs.size (.tup [.int (i:Int),x])) { s with heap:=g',toks:=s.toks + 1 }:=I.turnsL (tk:=s.toks + 1) (o:=.tup [.int (i:Int),x]) kp2 hf (Nat.le_refl _)
      (show ObjOk X.prog X.w _ g' _ (.tup [.int (i:Int),x])from⟨by show 2 <= sizeLine;decide,[.int i s.toks,u],.cons ⟨_,rfl⟩ (.cons ru .nil),⟨_,hpair,rfl,⟨_,rfl⟩,rfl⟩⟩)
    refine⟨.ref s.heap.objs.size,_,I2,rfl,⟨s.heap.objs.size,x,fresh,rfl,rfl,λ xs' q=>by rw[I.list_inj q h1];exact hx⟩,⟨⟨u,?_⟩,?_⟩,λ c hc=>?_⟩
    . have:=e'
      rw[show((i:Int) + 1)=((i + 1:Nat):Int) by omega]at this
      exact this
    . exact hr'.extBut sb.extBut (Ne.symm ne)
    . have lt:c < s.heap.objs.size:=by
        simp only[List.mem_cons,List.not_mem_nil,or_false]at hc
        rcases hc with rfl|rfl
        . exact hle
        . obtain⟨o,q,_⟩:=hr;exact Heap.lt_size q
      rw[AR (Nat.ne_of_lt lt)]
      exact(hf c hc).1
  done:=by
    intro X hP hw hK hc i pins s σ H E I hf st hg
    subst hP hw hK
    obtain⟨xs,h1,hend⟩:=hg
    obtain⟨its,r,pl,hz⟩:=I.list h1
    have l1':=r.length
    obtain⟨⟨old,he⟩,hr⟩:=st
    refine wpAny_pyNext_enum_end (show X.A.handled=none from I.ok.hd hc) he hr pl.isList (by simp;omega) λ g x=>⟨rfl,?_⟩
    exact I.turns (tk:=s.toks) (λ c o nc q=>by
      simp only[List.mem_cons,List.not_mem_nil,or_false,not_or]at nc
      exact x c o nc.2 q) hf
  self:=λ _ _ _ _ _ st h=>by
    obtain⟨⟨old,he⟩,hr⟩:=st
    exact wpAny_pyIter_enum he h
noncomputable def O3(K:PySem.W.Frag)(ta:TA):TI:=λ σ H R=>ta σ H λ vs H1=>∃ a xs,vs=[.ref a]/\SqL K H1 a xs/\R (Ite K a) H1
theorem K2:bootBuiltins "enumerate"=some (.type "enumerate"):=by decide +kernel
section
variable{X:Cx}
theorem U2(K:PySem.W.Frag){a:Expr}{ta:TA}{elts:List Expr}{kk:Nat}{tpos p pos:Pos}(hg:Gl X "enumerate")(hm:X.mg "enumerate"=none)(ha:PA X [a] ta)(hK:X.K=K:=by rfl)(hs:starEach [a] X.env=[(false,eval a X.env)]:=by rfl) :
    PI X (.Tuple elts kk tpos) (.Call (.Name "enumerate" p) [a] [] pos) (O3 K ta):=by
  subst hK
  intro pins s σ H R I h
  refine Call_ (G5 I hg hm K2 (PyProof.Rows.callWith_type1 (thn (ha pos pins s σ H _ I h) λ us s1 ⟨vs,H1,I1,r1,q1⟩=>?_) hs rfl))
  obtain⟨l,xs,e,c,q⟩:=q1
  subst e
  obtain⟨u,rfl,ru⟩:=r1.one
  cases ru
  obtain⟨its,r,pl,hz⟩:=I1.list c
  refine call_enumerate_list pl.isList λ g he hr hsz kp=>wpAny_pyIter_enum he ?_
  refine⟨_,_,_,_,H1,rfl,I1.kept (t':=s1.toks) kp,OX (Nat.ne_of_gt (Nat.lt_succ_self _)),⟨⟨_,he⟩,hr⟩,λ c hc=>?_,q⟩
  simp only[List.mem_cons,List.not_mem_nil,or_false]at hc
  have le:s1.heap.objs.size <= c:=by
    rcases hc with rfl|rfl
    . exact Nat.le_add_right _ _
    . exact Nat.le_refl _
  exact I1.fpOk le (I1.hok.fresh le)
end
section
variable{K:PySem.W.Frag}
noncomputable def Hw(ma:MI):MI:=λ ls hd=>(ma ls hd).map λ p=>((p.1.1.zipIdx.map λ q=>Ai [.im (.int (q.2:Int)),q.1],p.1.2),p.2)
theorem TV{ta:TE}{ma:MI}(ha:RRw K false ta ma):RIt K (O3 K (Bp ta Ck)) (Hw ma):=by
  intro ρ σ H hd ls Q d g hd' hR hL hm hQ
  obtain⟨⟨⟨d1,g1⟩,h1⟩,e1,e2⟩:=Option.map_eq_some_iff.mp hm
  cases e2
  refine ha ρ σ H hd ls _ d1 g1 h1 hR hL e1 λ ρ1 H1 a x1 R1 G1 S1=>?_
  obtain⟨xs,c1,r1⟩:=S1 ρ1 H1 _ .refl R1 G1
  refine⟨a,xs,rfl,c1,hQ ρ1 H1 _ x1 R1 G1 ?_⟩
  intro ρ3 H3 hd3 x3 R3 G3 i
  obtain⟨xs,c1,r1⟩:=S1 ρ3 H3 _ x3 R3 G3
  have l1:=r1.len
  refine⟨λ hi=>?_,λ hi=>⟨xs,c1,?_⟩⟩
  . have hi:i < d1.length:=by simpa using hi
    have i1:d1[i]? = some (d1[i]'hi):=List.getElem?_eq_getElem _
    obtain⟨x,x4,x5⟩:=r1.get i1
    refine⟨⟨xs,x,c1,x4⟩,λ z H4 hz=>?_⟩
    obtain⟨p,v,fp,rfl,rfl,hv⟩:=hz
    have ev:=hv xs c1;rw[x4]at ev;cases ev
    obtain⟨R4,x6⟩:=R3.hid (ho:=.tup [.int (i:Int),x]) fp
    refine⟨ρ3,Ai [.im (.int (i:Int)),d1[i]'hi],x6,rfl,R4,?_,Cm (SqT.of Am) (.cons (by simp[RD,RI]) (.cons (x5.ext R3 x6) .nil))⟩
    simp[i1]
  . have hi:i=d1.length:=by simpa using hi
    omega
theorem N0(K:PySem.W.Frag){X:Cx}{a:Expr}{ta:TE}{ma:MI}{elts:List Expr}{kk:Nat}{tpos p pos:Pos}(hm:X.mg "enumerate"=none)(ha:QR K false X a ta ma)(hg:Gl X "enumerate":=by rfl)(hK:X.K=K:=by rfl)(hs:starEach [a] X.env=[(false,eval a X.env)]:=by rfl) :
    QI K X (.Tuple elts kk tpos) (.Call (.Name "enumerate" p) [a] [] pos) (O3 K (Bp ta Ck)) (Hw ma):=⟨U2 K hg hm (Cf ha.p Di hs) hK hs,TV ha.r⟩
theorem Mk{ma:MI}{ls:Ls}{hd:Hd}{QI:List D × Gd->Hd->Prop}(h:WI ma ls hd λ p x=>QI (p.1.zipIdx.map λ q=>Ai [.im (.int (q.2:Int)),q.1],p.2) x):WI (Hw ma) ls hd QI:=by
  obtain⟨p,x,e,q⟩:=h
  exact⟨_,_,by simp only[Hw,e,Option.map_some],q⟩
end
noncomputable def Mw:V->List V->Hp->VK->Prop:=λ x vs H Q=>∃ (l:Addr) (xs:List V) (i:Int) (k:Nat) (y:V),x=.ref l/\vs=[.int i,y]/\i=(k:Int)/\H l=some (.lst xs)/\k <= xs.length/\xs.length < sizeLine/\Q .non (upd H l (.lst (xs.take k ++ y :: xs.drop k)))
theorem PB{X:Cx}:MtM X "list.insert" Mw:=by
  intro pins s σ H x vs v us Q I rx rv h
  obtain⟨l,xs,i,k,y,rfl,rfl,hi,hH,hk,hz,q⟩:=h
  cases rx
  obtain⟨u,w,rfl,ru,rw'⟩:=Iq rv
  obtain⟨t,rfl⟩:=ru
  obtain⟨z,its,n,r,hl,e⟩:=I.lstM hH
  have h1:its.toArray.size <= sizeLine:=by rw[List.size_toArray,<- hl];exact z
  have hkl:k <= its.length:=by rw[<- hl];exact hk
  have hf:¬ (!Builtin.List.listFitsIndex i)=true:=by
    have h3:=Fz
    have h4:=Nat.lt_of_le_of_lt hk hz
    rw[fitsIndex_both (k:=i) (by omega) (by omega)];decide
  have M:=AutoSeq1.list_insert_list_int_val_1 l its.toArray n i t w hf
  have M:=M h1
  refine call_meets F.slot_list_insert ⟨_,e,rfl⟩ F.entry_list_insert (F.args_list_insert_3 _ _ _) M ⟨e,?_⟩
  . refine⟨.non,_,I.lset (its':=its.take k ++ w :: its.drop k) hH e ?_ ((r.take k).append (.cons rw' (r.drop k))) ?_,rfl,q⟩
    . show((its.toArray.extract 0 (if i < 0 then(i + (its.toArray.size:Int)).toNat else min i.toNat its.toArray.size)).push w ++ its.toArray.extract (if i < 0 then(i + (its.toArray.size:Int)).toNat else min i.toNat its.toArray.size))=_
      have e1:(if i < 0 then(i + (its.toArray.size:Int)).toNat else min i.toNat its.toArray.size)=k:=by
        rw[if_neg (by omega),hi,Int.toNat_natCast,List.size_toArray];omega
      rw[e1]
      apply Array.ext'
      simp[List.extract_eq_drop_take]
      try exact List.take_of_length_le (by simp)
    . rw[List.length_append,List.length_take,List.length_cons,List.length_drop]
      have:=Nat.succ_le_of_lt hz
      rw[Nat.min_eq_left hk]
      omega
open Classical in
noncomputable def GB:D->List D->Hd->Option (D × Hd)
  | .mu n,[.im (.int i),y],hd=>match hd[n]? with
    | some (.lst ds)=>if 0 <= i/\i <= ds.length/\Ex ds.length then some (.im .non,hd.set n (.lst (ds.take i.toNat ++ y :: ds.drop i.toNat)))else none
    | _=>none
  | _,_,_=>none
section
variable{K:PySem.W.Frag}{ρ ρ':List Addr}{H H':Hp}{hd hd':Hd}
theorem RDs.takeD:∀ {ds:List D} {xs:List V} (k:Nat),RDs K ρ H ds xs->RDs K ρ H (ds.take k) (xs.take k)
  | [],xs,k,h=>by simp only[RDs]at h;subst h;simp[RDs]
  | d :: ds,xs,0,h=>by simp[RDs]
  | d :: ds,xs,k + 1,h=>by
    simp only[RDs]at h
    obtain⟨x,r,rfl,h1,h2⟩:=h
    simp only[List.take_succ_cons,RDs]
    exact⟨x,_,rfl,h1,RDs.takeD k h2⟩
theorem RDs.dropD:∀ {ds:List D} {xs:List V} (k:Nat),RDs K ρ H ds xs->RDs K ρ H (ds.drop k) (xs.drop k)
  | [],xs,k,h=>by simp only[RDs]at h;subst h;simp[RDs]
  | d :: ds,xs,0,h=>by simpa using h
  | d :: ds,xs,k + 1,h=>by
    simp only[RDs]at h
    obtain⟨x,r,rfl,h1,h2⟩:=h
    simp only[List.drop_succ_cons]
    exact RDs.dropD k h2
theorem Oh:RM K Mw GB:=by
  intro ρ H hd d v ds vs Q z hd' hR h1 h2 hf hQ
  unfold GB at hf
  split at hf
  . next n i y=>
    split at hf
    . next es q=>
      split at hf
      . next c=>
        cases hf
        simp only[RD]at h1
        obtain⟨a,hn,rfl⟩:=h1
        simp only[RDs,RD,RI]at h2
        obtain⟨x,r,rfl,rfl,y',r',rfl,hy,rfl⟩:=h2
        obtain⟨xs,f1,f2⟩:=hR.lst hn q
        have l:=f2.len
        obtain⟨R2,x2⟩:=hR.put hn (o:=.lst (es.take i.toNat ++ y :: es.drop i.toNat)) (ho:=.lst (xs.take i.toNat ++ y' :: xs.drop i.toNat)) ⟨_,rfl,(RDs.takeD _ f2).app (.cons hy (RDs.dropD _ f2))⟩
        exact⟨a,xs,i,i.toNat,y',rfl,rfl,by omega,f1,by omega,by rw[l];exact c.2.2,hQ ρ _ _ x2 R2 (by simp[RD,RI])⟩
      . cases hf
    . cases hf
  . cases hf
end
theorem OQ{hd:Hd}{k:Nat}{i:Int}{y:D}{ds:List D}{QE:D->Hd->Prop}(e1:hd[k]? = some (.lst ds))(c1:0 <= i)(c2:i <= ds.length)(c3:Ex ds.length)(q:QE (.im .non) (hd.set k (.lst (ds.take i.toNat ++ y :: ds.drop i.toNat)))):WP (GB (.mu k) [.im (.int i),y] hd) QE:=by
  refine⟨_,_,?_,q⟩
  simp only[GB,e1,c1,c2,c3,and_self,if_true]
end L2
namespace HT
open PySem PySem.Spec PyProof.Rows
section
variable{prog:Program}{w:World}{A:Around}{E:Value->Shared->Prop}{s:Shared}
end
end HT
namespace L2
open PySem PySem.Spec PyProof.Rows
section
variable{X:Cx}
end
section
variable{K:PySem.W.Frag}{ρ ρ':List Addr}{H H':Hp}{hd hd':Hd}
end
section
variable{X:Cx}
theorem Uf{prog:Program}{w:World}{A:Around}{E:Value->Shared->Prop}{s:Shared}{t b:Addr}{vs ws:List Value}{Q:Value->Shared->Prop}(ht:IsTup s.heap t vs.toArray)(hb:IsTup s.heap b ws.toArray)(hv:vs=[])
    (h1:Q (.ref b) s):wpAny (model prog w) A (binaryOp .Add (.ref t) (.ref b)) Q E s:=by
  obtain⟨⟨cls,dd,data,sl⟩,ho,hc,n,hd⟩:=id ht
  obtain⟨⟨cls2,dd2,data2,sl2⟩,ho2,hc2,n2,hd2⟩:=id hb
  simp only at hc hd hc2 hd2
  subst hc hd hc2 hd2
  exact concat_meets ⟨_,ho,rfl⟩ ⟨_,ho2,rfl⟩ noFill_tuple_add seq_tuple_add PySem.F.slot_tuple_add PySem.F.entry_tuple_add (PySem.F.args_tuple_add_2 _ _)
      (tuple_addW0 t b vs.toArray ws.toArray n n2 dd dd2 sl sl2 (by simp[hv])) ⟨ho,ho2,h1⟩
noncomputable def SS(K:PySem.W.Frag):R2:=λ x y H Q=>∃ a b ys,x=.ref a/\y=.ref b/\SqT K H a []/\SqT K H b ys/\Q (.ref b) H
theorem UC(K:PySem.W.Frag)(hK:X.K=K:=by rfl):OpR X (binaryOp .Add) (SS K):=by
  subst hK
  intro pins s σ H x y v u Q I rx ry h
  obtain⟨a,b,ys,rfl,rfl,ha,hb,q⟩:=h
  cases rx
  cases ry
  obtain⟨its,r1,p1,_⟩:=I.tuple ha
  obtain⟨its2,r2,p2,_⟩:=I.tuple hb
  have:its=[]:=by cases r1;rfl
  exact Uf p1 p2 this ⟨.ref b,H,I,rfl,q⟩
noncomputable def I0:D->D->Hd->Option (D × Hd):=λ d e hd=>(Ad d).bind λ a=>(Ad e).bind λ b=>if a=[]then some (Ai b,hd)else none
theorem Tf{K:PySem.W.Frag}:RB K (SS K) I0:=by
  intro ρ H hd d e v u Q z hd' hR h1 h2 hf hQ
  unfold I0 at hf
  obtain⟨a,e1,hf⟩:=Option.bind_eq_some_iff.mp hf
  obtain⟨b,e2,hf⟩:=Option.bind_eq_some_iff.mp hf
  split at hf
  . next c=>
    cases hf
    subst c
    obtain⟨p,xs,rfl,q1,r1⟩:=h1.tup e1
    obtain⟨p2,ys,rfl,q2,r2⟩:=h2.tup e2
    have:xs=[]:=by simpa [RDs]using r1
    subst this
    exact⟨p,p2,ys,rfl,rfl,q1,q2,hQ ρ H _ .refl hR (Cm q2 r2)⟩
  . cases hf
end
section
variable{X:Cx}
theorem Ra{i:Nat}{y:Str}{elt tg iter tg2 iter2:Expr}{ifs ifs2:List Expr}{scope:Scope}{pos spos py:Pos}{loc fr:List Str}{ix:List Nat}{wi wi2:TI}{g g2:TG}{tf tf2:TT}{te:TE}(hN:X.N.Nodup)(hiN:X.N[i]? = some y)(hy:X.env.scope.names.lookup y=some .local)
    (hc:X.calm=true) (S:CSc X scope fr ix) (hi:PI X tg iter wi)
    (hg:∀ s H ex,PG (cCx X (loc ++ fr) scope s H ex) tg g) (hf:∀ s H ex,PF (cCx X (loc ++ fr) scope s H ex) ifs tf) (hi2:∀ s H ex,PI (cCx X (loc ++ fr) scope s H ex) tg2 iter2 wi2) (hg2:∀ s H ex,PG (cCx X (loc ++ fr) scope s H ex) tg2 g2) (hf2:∀ s H ex,PF (cCx X (loc ++ fr) scope s H ex) ifs2 tf2) (he:∀ s H ex,PE (cCx X (loc ++ fr) scope s H ex) elt te)
    (hsw:swapsWith (LC2 elt tg iter ifs tg2 iter2 ifs2 scope pos) (some (.Name y py)) spos.line X.env=pure true) (hs:∀ x,foldedSetIterable iter X.env x=pure x) (hs2:∀ s H ex x,foldedSetIterable iter2 (cCx X (loc ++ fr) scope s H ex).env x=pure x) :
    PS X (.Assign [.Name y py] (LC2 elt tg iter ifs tg2 iter2 ifs2 scope pos) spos) (FH (HA loc.length ix wi g tf wi2 g2 tf2 te) (Ew i)):=by
  intro pins s σ H D I h
  have hnames:∀ y ∈ scope.names,y.2=.local->scope.names.lookup y.1=some .local:=λ y hy e=>by
    have:=List.all_eq_true.mp S.loc y hy
    rw[e]at this
    simpa using this
  rw[exec_Assign_Name_used _ _ _ _ hsw]
  refine wpAny_bind (wpAny_standAt (wpAny_bind ?_))
  show wpAny _ _ (do let _ <- comprehension (LC2 elt tg iter ifs tg2 iter2 ifs2 scope pos) scope X.env _ (newList []) false (eval iter X.env) (some (assign (.Name y py) X.env))) _ _ s
  refine wpAny_bind (wpAny_mono (wpAny_comprehension_free (use:=some (assign (.Name y py) X.env)) (Q:=λ _ s'=>SP X pins D .next s') rfl hs (DE (S.clos I.ok)) S.kind hnames
    (thn (hi pins s σ H _ I h) λ v s1 h1=>thn h1 λ itv s2 h2=>?_)) (λ _ s' hq=>wpAny_pure (wpAny_pure hq)) λ _ _ e=>e)
  obtain⟨it,fp,tn,J,H2,rfl,I2,T,st2,f2,hW⟩:=h2
  refine IJ (RR:=λ acc C=>compPost (model X.prog X.w) X.A X.xe (some (assign (.Name y py) X.env)) (λ _ s'=>SP X pins D .next s') acc C) hc S hg hf hi2 hg2 hf2 he hs2 I2 T st2 f2 hW λ s3 s6 H5 σ5 L I3 I6 f3 q=>?_
  have J6:Inv X pins σ H5 s6:=Fi (h'':=s6.heap) I3 I6 f3 (.refl ..)
  obtain⟨m,hm,_⟩:=I6.loc
  have hm:s6.heap.Ns s3.heap.objs.size m:=hm
  have hL:s3.heap.objs.size ≠ X.env.locals:=Ne.symm (Nat.ne_of_lt I3.lt)
  show wpAny _ _ (assign (.Name y py) X.env (.ref L)) _ _ s6
  refine wpAny_assign_Name (HB (v:=.ref L) J6 hN hiN (.inl hy) rfl (λ s7 I7 ⟨a,sb,ha⟩=>?_) (.inr hy))
  have hca:s3.heap.objs.size ≠ a:=by
    rcases ha with rfl|ha
    . exact hL
    . obtain⟨v,z⟩:=I3.cell y a ha
      exact Ne.symm (Nat.ne_of_lt z.lt)
  refine⟨m,hm.sameBut sb hca,λ h' hs'=>?_⟩
  refine⟨_,H5,I7.turned (t':=s7.toks) (it:=s3.heap.objs.size) (λ b o hb e=>(hs'.2 b hb).trans e) I6.free hL (.inr I3.sz) (λ x c e z=>?_) (λ p hp z=>?_),q⟩
  . obtain⟨v,w⟩:=I3.cell x c e
    exact absurd w.lt (by rw[z];exact Nat.lt_irrefl _)
  . exact absurd (Heap.lt_size (I3.pin p hp).1) (by rw[z];exact Nat.lt_irrefl _)
end
theorem IT(K:PySem.W.Frag){X:Cx}{i:Nat}{y:Str}{elt tg iter tg2 iter2:Expr}{ifs ifs2:List Expr}{scope:Scope}{pos spos py:Pos}{loc fr:List Str}{ix:List Nat}{wi wi2:TI}{g g2:TG}{tf tf2:TT}{te:TE}{mi mi2:MI}{n n2:MG}{mf mf2:MT}{mm:ME}(hN:X.N.Nodup)(hiN:X.N[i]? = some y)(hy:X.env.scope.names.lookup y=some .local)(hc:X.calm=true)(S:CSc X scope fr ix)(hi:QI K X tg iter wi mi)
    (hg:∀ s H ex,QG K (cCx X (loc ++ fr) scope s H ex) tg g n) (hf:∀ s H ex,QF K (cCx X (loc ++ fr) scope s H ex) ifs tf mf) (hi2:∀ s H ex,QI K (cCx X (loc ++ fr) scope s H ex) tg2 iter2 wi2 mi2) (hg2:∀ s H ex,QG K (cCx X (loc ++ fr) scope s H ex) tg2 g2 n2) (hf2:∀ s H ex,QF K (cCx X (loc ++ fr) scope s H ex) ifs2 tf2 mf2) (he:∀ s H ex,QE K (cCx X (loc ++ fr) scope s H ex) elt te mm)
    (hsw:swapsWith (.ListComp elt [⟨tg,iter,ifs,0⟩,⟨tg2,iter2,ifs2,0⟩] scope pos) (some (.Name y py)) spos.line X.env=pure true:=by rfl) (hs:∀ x,foldedSetIterable iter X.env x=pure x:=by intro _;rfl) (hs2:∀ s H ex x,foldedSetIterable iter2 (cCx X (loc ++ fr) scope s H ex).env x=pure x:=by intro _ _ _ _;rfl) :
    QS K X (.Assign [.Name y py] (.ListComp elt [⟨tg,iter,ifs,0⟩,⟨tg2,iter2,ifs2,0⟩] scope pos) spos) (FH (HA loc.length ix wi g tf wi2 g2 tf2 te) (Ew i)) (AY i (Eb loc.length ix mi n mf mi2 n2 mf2 mm)):=
  ⟨Ra hN hiN hy hc S hi.p (λ s H ex=>(hg s H ex).p) (λ s H ex=>(hf s H ex).p) (λ s H ex=>(hi2 s H ex).p) (λ s H ex=>(hg2 s H ex).p) (λ s H ex=>(hf2 s H ex).p) (λ s H ex=>(he s H ex).p) hsw hs hs2,J0 (GR K (pos:=pos) hc S hi hg hf hi2 hg2 hf2 he hs hs2).r Ho⟩
end L2
namespace L2
open PySem PySem.Spec PyProof.Rows
section
variable{prog:Program}{w:World}{A:Around}{E:Value->Shared->Prop}{s:Shared}
theorem Mh{l:Addr}{vs:List Value}{Q:List Value->Shared->Prop}(hl:IsTup s.heap l vs.toArray)
    (h:Q vs { s with heap:=(s.heap.push (seqObj "list" #[] 0)).update s.heap.objs.size (Obj.mapSeq (· ++ vs.toArray)) }) (hsz:vs.length <= sizeLine:=by size_fits) :
    wpAny (model prog w) A (collect (.ref l)) Q E s:=by
  obtain⟨o,ho,hc,n,hd⟩:=id hl
  unfold collect
  refine wpAny_bind (wpAny_runValue (codeAny_builtin entry_proto_collect' ?_))
  show wpAny _ _ (do again (.builtin "list.__iadd__" ⟨[<- newList [],.ref l],[]⟩)) _ _ s
  refine wpAny_bind (wpAny_newList (wpAny_pure ⟨Code.quiet_builtin _ (by decide +kernel),codeAny_builtin entry_list_iadd' ?_⟩))
  show wpAny _ _ (Builtin.List.listExtendWith (.ref s.heap.objs.size) (.ref l) (.ref s.heap.objs.size)) _ _ { s with heap:=s.heap.push (seqObj "list" #[] 0) }
  unfold Builtin.List.listExtendWith
  have ho':(s.heap.push (seqObj "list" #[] 0)).get? l=some o:=Heap.get?_push_of_some _ ho
  refine wpAny_bind (wpAny_typeOf (T:="tuple") ⟨o,ho',hc⟩ ?_)
  have ht:(Value.type "tuple" == Value.type "tuple")=true:=by rfl
  rw[if_pos (by rw[ht];simp)]
  refine wpAny_bind (listItems_at ho' hd ?_)
  refine wpAny_bind (listItems_at (xs:=#[]) (n:=0) (Heap.get?_push_size _ rfl) rfl ?_)
  rw[if_neg (by simp)]
  refine wpAny_bind (listUpdate_at (xs:=#[]) (n:=0) (Heap.get?_push_size _ rfl) rfl ?_ (Nat.zero_le _) (by show(#[] ++ vs.toArray).size <= sizeLine + 1;simp only[Array.size_append,List.size_toArray,List.length_nil];omega))
  refine wpAny_pure ?_
  show wpAny (model prog w) A (do
      let o <- load s.heap.objs.size
      match o.data with
      | .seq xs _=>pure xs.toList
      | _=>unsupported "internal:collect") Q E { s with heap:=(s.heap.push (seqObj "list" #[] 0)).update s.heap.objs.size (Obj.mapSeq (· ++ vs.toArray)) }
  refine wpAny_bind (wpAny_load (get?_update_seq (Heap.get?_push_size _ rfl) _) ?_)
  show wpAny _ _ (pure ((#[]:Array Value) ++ vs.toArray).toList) Q E _
  rw[show((#[]:Array Value) ++ vs.toArray).toList=vs by simp]
  exact wpAny_pure h
theorem LC{l:Addr}{vs:List Value}{ns:List Int}{Q:Value->Shared->Prop}(hl:IsTup s.heap l vs.toArray)(hI:IntsAre vs ns)(h64:vs.length < 64)
    (h:∀ (out:Array Value) (ns':List Int),IntsAre out.toList ns'->ns'.Perm ns->ns'.Pairwise (· <= ·)->Q (.ref (s.heap.objs.size + 1)) { s with heap:=sortedAll s.heap vs out }) :
    wpAny (model prog w) A (call (.builtin "sorted") [.ref l]) Q E s:=by
  refine Calls.call_function_entry kind_sorted plain_sorted entry_sorted (args_sorted1 _) ?_
  unfold Builtin.«sorted»
  refine wpAny_bind (m:=checkCount "sorted" 1 1 _) (wpAny_pure ?_)
  refine wpAny_bind (Mh hl ?_)
  refine wpAny_bind (wpAny_newList ?_)
  have hsz:((s.heap.push (seqObj "list" #[] 0)).update s.heap.objs.size (Obj.mapSeq (· ++ vs.toArray))).objs.size=s.heap.objs.size + 1:=by
    rw[Heap.size_update,size_push']
  have hoL:(((s.heap.push (seqObj "list" #[] 0)).update s.heap.objs.size (Obj.mapSeq (· ++ vs.toArray))).push (seqObj "list" vs.toArray 0)).get? (s.heap.objs.size + 1)=some (seqObj "list" vs.toArray 0):=by
    rw[<- hsz];exact Heap.get?_push_size _ rfl
  show wpAny _ _ _ _ _ { s with heap:=((s.heap.push (seqObj "list" #[] 0)).update s.heap.objs.size (Obj.mapSeq (· ++ vs.toArray))).push (seqObj "list" vs.toArray 0) }
  rw[hsz]
  refine wpAny_bind (wpAny_holding (wpAny_call_entry slot_list_sort ⟨_,hoL,rfl⟩ entry_list_sort (list_sort_tree hoL hI h64 λ out ns' a1 a2 a3=>⟨_,rfl,?_⟩) (args_list_sort _)))
  exact wpAny_pure ⟨_,rfl,h out ns' a1 a2 a3⟩
end
end L2
namespace L2
open PySem PySem.Spec PyProof.Rows
section
variable(K:PySem.W.Frag){X:Cx}
noncomputable def IR:List V->Hp->VK->Prop:=λ xs H Q=>∃ (a:Addr) (ns:List Int),xs=[.ref a]/\SqT K H a (ns.map V.int)/\ns.length < 64/\∀ (p:Addr) (ns':List Int),H p=none->ns'.Perm ns->ns'.Pairwise (· <= ·)->Q (.ref p) (upd H p (.lst (ns'.map V.int)))
theorem ML(hK:X.K=K:=by rfl):CallR X (.builtin "sorted") (IR K):=by
  subst hK
  intro pins s σ H xs us Q I r h
  obtain⟨a,ns,rfl,hq,h64,q⟩:=h
  obtain⟨u,rfl,ru⟩:=Cc r
  cases ru
  obtain⟨its,rv,p,hz⟩:=I.tuple hq
  have hlen:=rv.length
  rw[List.length_map]at hlen
  refine LC p (FD rv) (by omega) λ out ns' a1 a2 a3=>?_
  obtain⟨e,he⟩:=sortedAll_at s.heap its out
  have hl':ns'.length=ns.length:=a2.length_eq
  refine⟨.ref (s.heap.objs.size + 1),_,I.laid (a:=s.heap.objs.size + 1) (o:=.lst (ns'.map V.int)) (t':=s.toks) (λ b o hb=>sortedAll_old hb) (Nat.le_succ _) ⟨?_,out.toList,e,Ml a1,he⟩,rfl,q _ _ (I.hok.fresh (Nat.le_succ _)) a2 a3⟩
  rw[List.length_map,hl']
  exact Nat.le_of_lt (KA (by omega))
end
section
variable{K:PySem.W.Frag}
theorem Ng{t:TE}{m:MI}(h:RRw K true t m):RN K (tCB (IR K) (Bp t Ck)) (FC m):=by
  intro ρ σ H hd ls Q d hd' hR hL hm hQ
  obtain⟨⟨⟨d1,g1⟩,h1⟩,e1,hm⟩:=Option.bind_eq_some_iff.mp hm
  obtain⟨ns,e2,hm⟩:=Option.bind_eq_some_iff.mp hm
  split at hm
  . next c=>
    cases hm
    refine h ρ σ H hd ls _ d1 g1 _ hR hL e1 λ ρ1 H1 a x1 R1 G1 S1=>?_
    obtain⟨xs,q,r⟩:=S1 ρ1 H1 _ .refl R1 G1
    have e3:d1=ns.map λ i=>.im (.int i):=GZ e2
    rw[e3]at r
    have:=Hq r
    subst this
    refine⟨a,ns,rfl,q,c,λ p ns' hp pm pw=>?_⟩
    have:ns'=Db ns:=Jp (pm.trans (Iy ns).symm) pw (LF ns)
    subst this
    obtain⟨R2,x2⟩:=R1.hid (ho:=.lst ((Db ns).map V.int)) hp
    exact hQ ρ1 _ p _ (x1.trans R1 x2) R2 (x1.none hR hp R1) (R1.out hp) Am G7
  . cases hm
theorem No(K:PySem.W.Frag){X:Cx}{e:Expr}{te:TE}{mi:MI}{p pos:Pos}(hm:X.mg "sorted"=none)(ha:QR K true X e te mi)(hg:Gl X "sorted":=by rfl)(he:starEach [e] X.env=[(false,eval e X.env)]:=by rfl)(hK:X.K=K:=by rfl):QN K X (.Call (.Name "sorted" p) [e] [] pos) (tCB (IR K) (Bp te Ck)) (FC mi):=
  ⟨FP (ML K hK) hg hm KO (Cf ha.p Di he) (by decide) (by decide) he rfl,Ng ha.r⟩
end
end L2
namespace L2
noncomputable abbrev Se:=Gh BI I0
end L2
namespace L2
open PySem PySem.Spec PyProof.Rows
section
variable{K:PySem.W.Frag}{ρ ρ':List Addr}{H H':Hp}{hd hd':Hd}
end
section
variable{hd:Hd}{QE:D->Hd->Prop}
end
end L2
namespace L2
open PySem PySem.Spec PyProof.Rows PySem.W
section
variable{prog:Program}{w:World}{A:Around}{E:Value->Shared->Prop}{s:Shared}
end
end L2
namespace L2
open PySem PySem.Spec PyProof.Rows PySem.W
section
variable{X:Cx}{pins:List (Addr × Obj)}{σ:St}{H:Hp}{s:Shared}{a:Addr}
end
end L2
namespace L2
open PySem PySem.Spec PyProof.Rows PySem.W
section
variable{X:Cx}{pins:List (Addr × Obj)}{σ:St}{H:Hp}{s:Shared}
end
end L2
namespace L2
open PySem PySem.Spec PyProof.Rows PySem.W
section
variable{X:Cx}{c P:Addr}{scope:Scope}{fr:List Str}{ix:List Nat}{prm:Str}{params:Arguments}{body e:Expr}{p pos lpos kpos:Pos}{te tb:TE}
end
end L2
namespace L2
open PySem PySem.Spec PyProof.Rows PySem.W
section
variable{K:PySem.W.Frag}{ρ:List Addr}{H:Hp}{hd:Hd}
end
end L2
namespace L2
open PySem PySem.Spec PyProof.Rows PySem.W
end L2
namespace HT
open PySem PyProof.Rows
end HT
namespace L2
open PySem PySem.Spec PyProof.Rows
section
variable{X:Cx}
end
section
variable{K:PySem.W.Frag}
end
end L2
namespace HT
open PySem PyProof.Rows
open PySem.AutoSeq1 (wpAny_loadPart')
section
variable{prog:Program}{w:World}{A:Around}{E:Value->Shared->Prop}{s:Shared}
end
end HT
namespace L2
open PySem PySem.Spec PyProof.Rows
end L2
namespace HS
open PySem PyProof.Rows
open PySem.AutoSeq1 (wpAny_loadPart')
open Sem (wp)
noncomputable abbrev st(t:Tok):List (Str × Value):=[(Str.ofString "start",.int 1 t)]
section
variable{prog:Program}{w:World}{A:Around}{E:Value->Shared->Prop}{s:Shared}
end
end HS
namespace L2
open PySem PySem.Spec PyProof.Rows
section
variable{K:PySem.W.Frag}
end
end L2
namespace HR
open PySem PyProof.Rows
open Sem (wp)
section
variable{prog:Program}{w:World}{A:Around}{E:Value->Shared->Prop}{s:Shared}
end
section
variable{prog:Program}{w:World}{A:Around}{R:Result->Shared->Prop}
end
section
variable{prog:Program}{w:World}{A:Around}{R:Result->Shared->Prop}{s:Shared}
end
section
variable{prog:Program}{w:World}{A:Around}{E:Value->Shared->Prop}{s:Shared}
end
end HR
namespace L2
open PySem PySem.Spec PyProof.Rows
section
variable{K:PySem.W.Frag}
end
end L2
namespace L2
open PySem PySem.Spec PyProof.Rows PySem.W
section
variable{X:Cx}{pins:List (Addr × Obj)}{σ:St}{l f It S:Addr}{src:Hp->List V->Prop}{G:Hp->Prop}{tb:TE}{cap:St}{Q:VK}{E:Value->Shared->Prop}
end
end L2
namespace L2
open PySem PySem.Spec PyProof.Rows PySem.W
section
variable{X:Cx}{c P:Addr}{scope:Scope}{fr:List Str}{ix:List Nat}{prm:Str}{params:Arguments}{body e:Expr}{p pos lpos kpos:Pos}{te tb:TE}
end
end L2
namespace L2
open PySem PySem.Spec PyProof.Rows PySem.W
section
variable{K:PySem.W.Frag}{hd:Hd}
end
end L2
namespace L2
open PySem PySem.Spec PyProof.Rows PySem.W
section
variable{X:Cx}{pins:List (Addr × Obj)}{σ:St}{l f It S:Addr}{src:Hp->List V->Prop}{G:Hp->Prop}{tb:TE}{cap:St}{Q:VK}{E:Value->Shared->Prop}
end
section
variable{X:Cx}{c P:Addr}{scope:Scope}{fr:List Str}{ix:List Nat}{prm:Str}{params:Arguments}{body e:Expr}{p pos lpos kpos:Pos}{te tb:TE}
end
section
variable{K:PySem.W.Frag}{hd:Hd}
end
end L2
namespace L2
open PySem PySem.Spec PyProof.Rows PySem.W
section
variable{K:PySem.W.Frag}{hd:Hd}
end
section
variable{X:Cx}{pins:List (Addr × Obj)}{σ:St}{l f It S:Addr}{src:Hp->List V->Prop}{G:Hp->Prop}{tb:TE}{cap:St}{Q:VK}{E:Value->Shared->Prop}
end
section
variable{X:Cx}{c P:Addr}{scope:Scope}{fr:List Str}{ix:List Nat}{prm:Str}{params:Arguments}{body e:Expr}{p pos lpos kpos:Pos}{te tb:TE}
end
section
variable{K:PySem.W.Frag}{hd:Hd}
end
end L2
namespace L2
open PySem PySem.Spec PyProof.Rows PySem.W
end L2
namespace L2
open PySem PySem.Spec PyProof.Rows
section
variable{X:Cx}{pos p2:Pos}
end
end L2
namespace L2
open PySem PySem.Spec PyProof.Rows
section
variable{K:PySem.W.Frag}
variable{X:Cx}{pos:Pos}
end
end L2
namespace L2
open PySem PySem.Spec PyProof.Rows
theorem pick_all:∀ L:List Value,(List.range L.length).filterMap (λ i=>L[i]?)=L
  | []=>rfl
  | x :: r=>by
    rw[List.length_cons,List.range_succ_eq_map,List.filterMap_cons]
    simp only[List.getElem?_cons_zero,List.filterMap_map]
    congr 1
    have:=pick_all r
    simpa [Function.comp_def]using this
theorem Kw:∀ {xs:List V} {us:List Value},Vals xs us->Vals xs.reverse us.reverse
  | _,_,.nil=>.nil
  | _,_,.cons r t=>by
    rw[List.reverse_cons,List.reverse_cons]
    exact Vals.append (Kw t) (.cons r .nil)
section
variable{X:Cx}{e stp:Expr}{te ts:TE}{pos p2:Pos}
end
end L2
namespace L2
open PySem PySem.Spec PyProof.Rows
section
variable{K:PySem.W.Frag}{ρ:List Addr}{H:Hp}
theorem RDs.rev:∀ {ds:List D} {xs:List V},RDs K ρ H ds xs->RDs K ρ H ds.reverse xs.reverse
  | [],xs,h=>by simp only[RDs]at h;subst h;simp[RDs]
  | d :: ds,xs,h=>by
    simp only[RDs]at h
    obtain⟨x,r,rfl,rx,h⟩:=h
    rw[List.reverse_cons,List.reverse_cons]
    exact(RDs.rev h).app (.cons rx .nil)
variable{X:Cx}{e stp:Expr}{te ts:TE}{m:MA}{ms:ME}{pos p2:Pos}
end
end L2
namespace L2
open PySem PySem.Spec PyProof.Rows
section
variable{K:PySem.W.Frag}
end
end L2
namespace HT
open PySem PySem.Spec PyProof.Rows
section
variable{prog:Program}{w:World}{A:Around}{E:Value->Shared->Prop}{s:Shared}
theorem OL(n:Nat):Builtin.Slice.sliceAdjust none none (-1) (n:Int)=((n:Int) - 1,-1):=by
  unfold Builtin.Slice.sliceAdjust
  simp
theorem Nq(n:Nat):Builtin.Slice.slicePlaces ((n:Int) - 1) (-1) (-1)=n:=by
  unfold Builtin.Slice.slicePlaces
  simp
  try omega
theorem IN{sl:Addr}{n:Nat}{t:Tok}{Q:Int × Int × Nat->Shared->Prop}(hs:s.heap.IsSliceOf sl .none .none (.int (-1) t))(h:Q ((n:Int) - 1,-1,n) s):wpAny (model prog w) A (Builtin.Slice.sliceApplied (.ref sl) (pure (n:Int))) Q E s:=by
  obtain⟨os,hos,hcs,hds⟩:=id hs
  unfold Builtin.Slice.sliceApplied Builtin.Slice.sliceFields
  refine wpAny_bind (wpAny_bind (wpAny_field hos hds (x:=.none) rfl (wpAny_bind (wpAny_field hos hds (x:=.none) rfl (wpAny_bind (wpAny_field hos hds (x:=.int (-1) t) rfl (wpAny_pure ?_)))))))
  refine wpAny_bind (slicePart_int ?_)
  show wpAny _ _ (if((-1:Int) == 0)=true then _ else _) _ _ s
  rw[if_neg (by decide)]
  refine wpAny_bind (slicePart_none (wpAny_bind (slicePart_none (wpAny_bind (wpAny_pure ?_)))))
  show wpAny _ _ (match Builtin.Slice.sliceAdjust none none (-1) (n:Int)with|(lo,hi)=>pure (lo,(-1:Int),Builtin.Slice.slicePlaces lo hi (-1))) _ _ s
  rw[OL n]
  show wpAny _ _ (pure ((n:Int) - 1,(-1:Int),Builtin.Slice.slicePlaces ((n:Int) - 1) (-1) (-1))) _ _ s
  rw[Nq]
  exact wpAny_pure h
theorem M5{α β:Type}{f g:α->Option β}:∀ {l:List α},(∀ x ∈ l,f x=g x)->l.filterMap f=l.filterMap g
  | [],_=>rfl
  | x :: l,h=>by rw[List.filterMap_cons,List.filterMap_cons,h x List.mem_cons_self,M5 λ y hy=>h y (List.mem_cons_of_mem _ hy)]
theorem P0(xs:Array Value):((List.range xs.size).filterMap λ(m:Nat)=>xs[((xs.size:Int) - 1 + (m:Int) * (-1)).toNat]?).toArray=xs.toList.reverse.toArray:=by
  congr 1
  have e:(List.range xs.size).filterMap (λ(m:Nat)=>xs[((xs.size:Int) - 1 + (m:Int) * (-1)).toNat]?)=(List.range xs.toList.reverse.length).filterMap λ i=>xs.toList.reverse[i]? := by
    rw[List.length_reverse,Array.length_toList]
    refine M5 λ m hm=>?_
    have hm:m < xs.size:=by simpa using hm
    rw[List.getElem?_reverse (by simpa using hm)]
    simp only[Array.length_toList,Array.getElem?_toList]
    congr 1
    omega
  rw[e]
  exact L2.pick_all _
theorem getItem_tuple_rev{t sl:Addr}{items:Array Value}{k:Tok}{Q:Value->Shared->Prop}(ht:IsTup s.heap t items)(hs:s.heap.IsSliceOf sl .none .none (.int (-1) k))(h:Q (.ref s.heap.objs.size) { s with heap:=s.heap.push { cls:=.type "tuple",data:=.seq items.toList.reverse.toArray } })(hsz:items.size <= sizeLine):wpAny (model prog w) A (getItem (.ref t) (.ref sl)) Q E s:=by
  have hsize:sizeOk (.seq items.toList.reverse.toArray):=by
    show items.toList.reverse.toArray.size <= sizeLine
    simpa using hsz
  obtain⟨os,hos,hcs,hds⟩:=id hs
  have hTs:s.TypeIs (.ref sl) "slice":=⟨os,hos,hcs⟩
  unfold getItem
  try with_reducible refine wpAny_holding ?_
  first|refine wpAny_bind (wpAny_pure ?_)|skip
  refine wpAny_bind (wpAny_sequenceKey ht.typeIs (by decide) ?_)
  refine wpAny_bind (wpAny_callSpecial?_slot (name:=Str.ofString "__getitem__") ht.typeIs PyProof.Rows.slot_tuple_getitem
    (wpAny_call_entry PyProof.Rows.slot_tuple_getitem ht.typeIs entry_tuple_getitem ?_ (args_tuple_getitem _ _)))
  show wpAny _ _ (Builtin.Tuple.tupleItemsOf (.ref t) >>= _) _ _ s
  refine wpAny_bind (tupleItemsOf_ ht ?_)
  refine wpAny_bind (wpAny_typeOf hTs ?_)
  rw[if_pos (by decide)]
  refine wpAny_bind (IN hs ?_)
  show wpAny _ _ (if((((items.size:Int) - 1) == 0 && (-1:Int) == 1 && items.size == items.size)=true)then _ else _) _ _ s
  rw[if_neg (by simp),P0]
  first
    | exact wpAny_bind (m:=Builtin.Tuple.tupleExact _) (wpAny_newObj_type (wpAny_pure ⟨_,rfl,wpAny_pure h⟩) hsize)
    | exact wpAny_bind (m:=Builtin.Tuple.tupleExact _) (wpAny_newObj_type (wpAny_bind (wpAny_pure (wpAny_pure ⟨_,rfl,wpAny_pure h⟩))) hsize)
    | exact wpAny_bind (wpAny_bind (m:=Builtin.Tuple.tupleExact _) (wpAny_newObj_type (wpAny_pure (wpAny_pure ⟨_,rfl,wpAny_pure h⟩)) hsize))
    | exact wpAny_bind (wpAny_bind (m:=Builtin.Tuple.tupleExact _) (wpAny_newObj_type (wpAny_pure ⟨_,rfl,wpAny_pure h⟩) hsize))
end
end HT
namespace L2
open PySem PySem.Spec PyProof.Rows
section
variable{X:Cx}{e stp:Expr}{te ts:TE}{pos p2:Pos}
noncomputable def NU(K:PySem.W.Frag)(te ts:TE):TE:=λ σ H Q=>te σ H λ x H1=>ts σ H1 λ y H2=>y=.int (-1)/\∃ a xs,x=.ref a/\SqT K H2 a xs/\∀ p,H2 p=none->Q (.ref p) (upd H2 p (.tup xs.reverse))
theorem U6(he:PE X e te)(hs:PE X stp ts):PE X (.Subscript e (.Slice none none (some stp) p2) pos) (NU X.K te ts):=by
  intro pins s σ H Q I h
  refine Subscript_ (thn (he pins s σ H _ I h) λ v s1 ⟨x,H1,I1,r1,q1⟩=>?_)
  refine wpAny_Slice ?_
  rw[evalPart_none]
  refine wpAny_pure (wpAny_pure ?_)
  rw[evalPart_some]
  refine thn (hs pins s1 σ H1 _ I1 q1) λ vs s3 ⟨y,H3,I3,r3,q3⟩=>?_
  obtain⟨rfl,a,xs,rfl,hx,q⟩:=q3
  obtain⟨t,rfl⟩:=r3
  cases r1
  have I4:Inv X pins σ H3 { s3 with heap:=s3.heap.push { cls:=.type "slice",data:=.fields #[.none,.none,.int (-1) t] } }:=I3.kept (t':=s3.toks) λ b ob q=>Heap.get?_push_of_some _ q
  obtain⟨its,r,ht,hz⟩:=I4.tuple hx
  have hlen:=r.length
  have hg:wpAny (model X.prog X.w) X.A (getItem (.ref a) (.ref s3.heap.objs.size)) (EP X pins σ Q) X.xe { s3 with heap:=s3.heap.push { cls:=.type "slice",data:=.fields #[.none,.none,.int (-1) t] } }:=by
    refine HT.getItem_tuple_rev ht (Heap.IsSliceOf.new ..) ?_ (by rw[List.size_toArray] <;> omega)
    refine⟨.ref _,_,I4.laid (t':=s3.toks) (o:=.tup xs.reverse) (λ b ob q=>Heap.get?_push_of_some _ q) (Nat.le_refl _) ?_,rfl,q _ (I4.hok.fresh (Nat.le_refl _))⟩
    exact⟨by rw[List.length_reverse];exact hz,its.reverse,Kw r,IsTupD.new _ _⟩
  show wpAny (model X.prog X.w) X.A (subscriptTail e (.Slice none none (some stp) p2) (.ref a) (.ref s3.heap.objs.size)) (EP X pins σ Q) X.xe { s3 with heap:=s3.heap.push { cls:=.type "slice",data:=.fields #[.none,.none,.int (-1) t] } }
  exact tail_any (ops:=[.ref a,.ref s3.heap.objs.size]) ht.typeIs PyProof.Rows.slot_tuple_getitem.lookup hg (by with_unfolding_all rfl)
end
section
variable{K:PySem.W.Frag}{X:Cx}{e stp:Expr}{te ts:TE}{m ms:ME}{pos p2:Pos}
noncomputable def JL(m ms:ME):ME:=λ ls hd=>(m ls hd).bind λ p=>(ms ls p.2).bind λ q=>match q.1 with
  | .im (.int i)=>if i=-1 then(Ad p.1).map λ ds=>(Ai ds.reverse,q.2)else none
  | _=>none
theorem Ta(h:RE K te m)(hs:RE K ts ms):RE K (NU K te ts) (JL m ms):=by
  intro ρ σ H hd ls Q d hd' hR hL hm hQ
  obtain⟨⟨d1,h1⟩,e1,hm⟩:=Option.bind_eq_some_iff.mp hm
  obtain⟨⟨d2,h2⟩,e2,hm⟩:=Option.bind_eq_some_iff.mp hm
  dsimp only at e2 hm
  split at hm
  . split at hm
    . next hi=>
      obtain⟨ds,e3,e4⟩:=Option.map_eq_some_iff.mp hm
      cases e4
      subst hi
      refine h ρ σ H hd ls _ d1 h1 hR hL e1 λ ρ1 H1 v1 x1 R1 r1=>?_
      refine hs ρ1 σ H1 h1 ls _ _ _ R1 (hL.ext hR x1) e2 λ ρ2 H2 v x2 R2 r2=>?_
      simp only[RD,RI]at r2
      obtain⟨a,xs,rfl,q,r⟩:=(r1.ext R1 x2).tup e3
      refine⟨r2,a,xs,rfl,q,λ p hp=>?_⟩
      obtain⟨R3,x3⟩:=R2.hid (ho:=.tup xs.reverse) hp
      exact hQ ρ2 _ _ ((x1.trans R1 x2).trans R2 x3) R3 (Cm (SqT.of Am) ((RDs.rev r).ext R2 x3))
    . cases hm
  . cases hm
theorem Tm(h:QE K X e te m)(hs:QE K X stp ts ms)(hK:X.K=K:=by rfl):QE K X (.Subscript e (.Slice none none (some stp) p2) pos) (NU K te ts) (JL m ms):=by
  subst hK
  exact⟨U6 h.p hs.p,Ta h.r hs.r⟩
theorem Sx{ls:Ls}{hd:Hd}{Q:D->Hd->Prop}(h:WE m ls hd λ d x=>WE ms ls x λ i y=>i=.im (.int (-1))/\∃ ds,Ad d=some ds/\Q (Ai ds.reverse) y):WE (JL m ms) ls hd Q:=by
  obtain⟨d,x,e1,i,y,e2,rfl,ds,e3,q⟩:=h
  exact⟨_,_,by simp only[JL,e1,e2,Option.bind_some,if_true,e3,Option.map_some],q⟩
end
end L2
namespace L2
open PySem PySem.Spec PyProof.Rows
theorem KU:seqSlot? (.type "list") (dunderI "add")=pure (some (.builtin "list.__iadd__")):=PySem.seqSlot_of F.slot_list_iadd.lookup (by decide +kernel)
theorem Q9{M:Model}{A:Around}{E:Value->Shared->Prop}{s:Shared}{a b:Value}{Q:Value->Shared->Prop}(ha:s.TypeIs a "list")(hb:s.TypeIs b "list")
    (hc:wpAny M A (call (.builtin "list.__iadd__") [a,b]) Q E s):wpAny M A (inplaceOp .Add a b) Q E s:=by
  unfold inplaceOp
  refine wpAny_holding ?_
  have hfi:fillsInplaceSlot (.type "list") "add" (Operator.Add == .Add)=pure false:=by
    unfold fillsInplaceSlot
    show(typeLookup (.type "list") (dunderI "add") >>= λ fi=>pure (fi.isSome && !isSeqSlot fi))=pure false
    rw[F.slot_list_iadd.lookup,pure_bind]
    have:isSeqSlot (some (.builtin "list.__iadd__"))=true:=by decide +kernel
    rw[this];rfl
  refine wpAny_bind (wpAny_typeOf ha (wpAny_bind (wpAny_of_eq hfi ?_)))
  show wpAny M A (if false=true then _ else _) Q E s
  rw[if_neg Bool.false_ne_true]
  refine wpAny_bind (wpAny_binaryOp1_none (nm:="add") ha hb noFill_list_add ?_)
  refine wpAny_bind (wpAny_of_eq KU ?_)
  exact wpAny_bind (wpAny_rule hc)
noncomputable def ipL:TIp:=λ x y H Q=>∃ l b xs zs,x=.ref l/\y=.ref b/\H l=some (.lst xs)/\H b=some (.lst zs)/\xs.length + zs.length <= sizeLine/\Q (.ref l) (upd H l (.lst (xs ++ zs)))
theorem US{X:Cx}:PIp X .Add ipL:=by
  intro pins s σ H x y v u Q I rx ry h
  obtain⟨l,b,xs,zs,rfl,rfl,hH,hB,hz,q⟩:=h
  cases rx
  cases ry
  obtain⟨z,its,n,r,hl,e⟩:=I.lstM hH
  obtain⟨z2,its2,n2,r2,hl2,e2⟩:=I.lstM hB
  have hsz:its.toArray.size + its2.toArray.size <= sizeLine:=by rw[List.size_toArray,List.size_toArray];omega
  have hlong:¬ (!its.toArray.isEmpty && Builtin.List.listTooLong (its.toArray.size + its2.toArray.size))=true:=by
    rw[Lo hsz,Bool.and_false]
    exact Bool.false_ne_true
  refine Q9 ⟨_,e,rfl⟩ ⟨_,e2,rfl⟩ (call_meets F.slot_list_iadd ⟨_,e,rfl⟩ F.entry_list_iadd (F.args_list_iadd_2 _ _)
    (AutoSeq1.list___iadd___list_list_0 l its.toArray n b its2.toArray n2 hlong (by rw[List.size_toArray];omega) (by omega)) ⟨e,e2,?_⟩)
  refine⟨.ref l,_,I.lset (its':=its ++ its2) hH e (by simp) (r.append r2) ?_,rfl,q⟩
  rw[List.length_append]
  omega
section
variable{K:PySem.W.Frag}
open Classical in
noncomputable def ZH:D->List D->Hd->Option (D × Hd)
  | .mu n,[d],hd=>match hd[n]?,Ad d with
    | some (.lst ds),some es=>if C0 (ds.length + es.length)then some (.im .non,hd.set n (.lst (ds ++ es)))else none
    | _,_=>none
  | _,_,_=>none
open Classical in
noncomputable def Hx(i:Nat)(m:ME):MS:=λ ls hd=>match ls[i]? with
  | some (some (.mu n))=>(m ls hd).bind λ p=>match p.1 with
    | .mu k=>match p.2[n]?,p.2[k]? with
      | some (.lst ds),some (.lst es)=>if C0 (ds.length + es.length)then some (.nx (ls.set i (some (.mu n))),p.2.set n (.lst (ds ++ es)))else none
      | _,_=>none
    | _=>none
  | _=>none
theorem TH{i:Nat}{t:TE}{m:ME}(h:RE K t m):RS K (L8 i t ipL) (Hx i m):=by
  intro ρ σ H hd0 ls E f hd' hR hL hm hQ
  unfold Hx at hm
  split at hm
  . next n e0=>
    obtain⟨⟨d1,h1⟩,e1,hm⟩:=Option.bind_eq_some_iff.mp hm
    dsimp only at hm
    split at hm
    . next k=>
      split at hm
      . next ds es q1 q2=>
        split at hm
        . next c=>
          cases hm
          obtain⟨v,v1,v2⟩:=hL.ob i _ e0
          refine⟨_,v1,h ρ σ H hd0 ls _ _ _ hR hL e1 λ ρ1 H1 w x1 R1 r1=>?_⟩
          have v3:=v2.ext hR x1
          simp only[RD]at v3 r1
          obtain⟨a,hn,rfl⟩:=v3
          obtain⟨b,hm,rfl⟩:=r1
          obtain⟨xs,f1,f2⟩:=R1.lst hn q1
          obtain⟨ys,g1,g2⟩:=R1.lst hm q2
          have l1:=f2.len;have l2:=g2.len
          obtain⟨R2,x2⟩:=R1.put hn (o:=.lst (ds ++ es)) (ho:=.lst (xs ++ ys)) ⟨_,rfl,f2.app g2⟩
          refine⟨a,b,xs,ys,rfl,rfl,f1,g1,by rw[l1,l2];exact c,hQ ρ1 _ (x1.trans R1 x2) R2 _ ((hL.ext hR (x1.trans R1 x2)).set i ?_)⟩
          simp only[RD]
          exact⟨a,hn,rfl⟩
        . cases hm
      . cases hm
    . cases hm
  . cases hm
theorem Tj{X:Cx}{i:Nat}{x:Str}{e:Expr}{te:TE}{me:ME}{pos pos':Pos}(hN:X.N.Nodup)(hi:X.N[i]? = some x)(hx:Loc X.env.scope x)(he:QE K X e te me)(hf:X.fn x=true ∨ X.env.scope.names.lookup x=some .local:=by first|exact .inl rfl|exact .inr rfl|assumption) :
    QS K X (.AugAssign (.Name x pos') .Add e pos) (L8 i te ipL) (Hx i me):=⟨Ov hN hi hx he.p US hf,TH he.r⟩
theorem Sv{i n:Nat}{m:ME}{ls:Ls}{hd:Hd}{Q:Fl->Hd->Prop}(e:ls[i]? = some (some (.mu n)))(h:WE m ls hd λ d y=>∃ k ds es,d=.mu k/\y[n]? = some (.lst ds)/\y[k]? = some (.lst es)/\C0 (ds.length + es.length)/\Q (.nx (ls.set i (some (.mu n)))) (y.set n (.lst (ds ++ es)))):WS (Hx i m) ls hd Q:=by
  obtain⟨d,y,e1,k,ds,es,rfl,q1,q2,c,q⟩:=h
  exact⟨_,_,by unfold Hx;rw[e];simp only[e1,Option.bind_some,q1,q2,c,if_true],q⟩
end
end L2
namespace L2
open PySem PySem.Spec PyProof.Rows
noncomputable def JZ(j:Int):Prop:=0 < j/\j < 2 ^ 200
noncomputable def Sr(i j:Int):Prop:=JZ j
theorem Ln{X:Cx}:OpR X (binaryOp .FloorDiv) (rI Sr λ i j=>.int (i / j)):=opI λ i j _ _ _ _ _ hc q=>by
  have h1:(0:Int) < j:=hc.1
  have h2:j < 2 ^ 200:=hc.2
  refine floordiv_int (by omega) (by rw[Int.fdiv_eq_ediv_of_nonneg i (by omega)];exact q) (.inl (PyProof.noPylong_of_log2 ?_))
  have h0:j.natAbs ≠ 0:=by omega
  have:j.natAbs.log2 < 200:=(Nat.log2_lt h0).mpr (by omega)
  omega
open Classical in
noncomputable abbrev JU:D->D->Hd->Option (D × Hd):=fI λ i j=>if JZ j then some (.int (i / j))else none
theorem LZ{K:PySem.W.Frag}:RB K (rI Sr λ i j=>.int (i / j)) JU:=La λ i j z h=>by
  split at h
  . next q=>cases h;exact⟨q,λ _=>by simp[RI]⟩
  . cases h
theorem Kr{i j:Int}{hd:Hd}{QE:D->Hd->Prop}(c:JZ j)(q:QE (.im (.int (i / j))) hd):WP (JU (.im (.int i)) (.im (.int j)) hd) QE:=⟨_,_,by simp[c],q⟩
end L2
namespace T69
open PySem L2
noncomputable def top(i:Nat):Stmt:=PySem.Challenge.pw_benchdays_k69_whole_lengths_and_weights.main.body.getD i (.Pass ⟨0,0,0,0⟩)
noncomputable abbrev BC:Stmt:=top 1
theorem sc_common_divisor:FnScope ["one","other"] ["one","other"] (A9 BC):=⟨rfl,rfl,rfl,by decide +kernel,rfl,by decide +kernel,by decide +kernel⟩
@[reducible] noncomputable def FQ:MS:=(AE (AY 0 (mCB M9 (A5 (A0 0) AC)))
    (AE (EZ (Ak (mOp gNe (A0 1) (mC (.int 0))))
      (FR [0,1] (A5 (A0 1) (A5 (mOp FT (A0 0) (A0 1)) AC))))
    (AZ (A0 0))))
noncomputable def CJ:List D->Hd->Option (D × Hd):=mkF 2 2 FQ
noncomputable abbrev C4:Stmt:=top 2
theorem sc_fraction:FnScope ["top","bottom","shared"] ["top","bottom"] (A9 C4):=⟨rfl,rfl,rfl,by decide +kernel,rfl,by decide +kernel,by decide +kernel⟩
@[reducible] noncomputable def JJ:MS:=(AE (BM (Ak (mOp gLt (A0 1) (mC (.int 0))))
      (FR [0,1] (A5 (HW (A0 0)) (A5 (HW (A0 1)) AC)))
      B5)
    (AE (AY 2 (AK 0 CJ (A5 (A0 0) (A5 (A0 1) AC))))
    (AZ (CI (A5 (mOp JU (A0 0) (A0 2)) (A5 (mOp JU (A0 1) (A0 2)) AC))))))
noncomputable def CW:List D->Hd->Option (D × Hd):=mkF 2 3 JJ
noncomputable abbrev Du:Stmt:=top 3
theorem Qg:FnScope ["one","other"] ["one","other"] (A9 Du):=⟨rfl,rfl,rfl,by decide +kernel,rfl,by decide +kernel,by decide +kernel⟩
@[reducible] noncomputable def N7:MS:=(AZ (AK 0 CW (A5 (mOp Hz (mOp Cg (mOp gIx (A0 0) (mC (.int 0))) (mOp gIx (A0 1) (mC (.int 1)))) (mOp Cg (mOp gIx (A0 1) (mC (.int 0))) (mOp gIx (A0 0) (mC (.int 1))))) (A5 (mOp Cg (mOp gIx (A0 0) (mC (.int 1))) (mOp gIx (A0 1) (mC (.int 1)))) AC))))
noncomputable def GG:List D->Hd->Option (D × Hd):=mkF 2 2 N7
noncomputable abbrev DT:Stmt:=top 4
theorem T8:FnScope ["one","other"] ["one","other"] (A9 DT):=⟨rfl,rfl,rfl,by decide +kernel,rfl,by decide +kernel,by decide +kernel⟩
@[reducible] noncomputable def PN:MS:=(AZ (mOp gLt (mOp Cg (mOp gIx (A0 0) (mC (.int 0))) (mOp gIx (A0 1) (mC (.int 1)))) (mOp Cg (mOp gIx (A0 1) (mC (.int 0))) (mOp gIx (A0 0) (mC (.int 1))))))
noncomputable def EC:List D->Hd->Option (D × Hd):=mkF 2 2 PN
noncomputable abbrev CB:Stmt:=top 5
theorem sc_falling:FnScope ["ratios","row","k","ratio"] ["ratios"] (A9 CB):=⟨rfl,rfl,rfl,by decide +kernel,rfl,by decide +kernel,by decide +kernel⟩
@[reducible] noncomputable def KG:MS:=(AE (AY 1 (BF (DV AC)))
    (AE (Cq (Hw (Ca (A0 0))) (Bh 2 (AO (AG 2) (AO (AG 3) Bi)))
      (Cr (mMt GB (A0 1) (A5 (Cp CN (BG 1 [0,3] (Ca (A0 1)) (AG 0) (Jt (GU (AK 0 EC (A5 (mOp gIx (A0 1) (A0 0)) (A5 (A0 2) AC))))) (A0 0))) (A5 (A0 2) AC)))))
    (AZ (A0 1))))
noncomputable def DZ:List D->Hd->Option (D × Hd):=mkF 1 4 KG
noncomputable abbrev CQ:Stmt:=top 10
theorem sc_steps_at:FnScope ["rows","t","told","begin","amount"] ["rows","t"] (A9 CQ):=⟨rfl,rfl,rfl,by decide +kernel,rfl,by decide +kernel,by decide +kernel⟩
@[reducible] noncomputable def m_steps_at:MS:=(AE (AY 2 (mC (.int 0)))
    (AE (Cq (BS (A0 0)) (Bh 2 (AO (AG 3) (AO (AG 4) Bi)))
      (AE (BM (Ak (mOp gGt (A0 3) (A0 1)))
      (AZ (A0 2))
      B5)
    (AY 2 (A0 4))))
    (AZ (A0 2))))
noncomputable def F_steps_at:List D->Hd->Option (D × Hd):=mkF 2 5 m_steps_at
noncomputable abbrev Ci:Stmt:=top 11
theorem sc_cost_at:FnScope ["cost","t","word","above"] ["cost","t"] (A9 Ci):=⟨rfl,rfl,rfl,by decide +kernel,rfl,by decide +kernel,by decide +kernel⟩
@[reducible] noncomputable def m_cost_at:MS:=(AE (AY 2 (mOp gIx (A0 0) (mC (.int 0))))
    (AE (BM (Ak (mOp gEq (A0 2) (mC (.str "steps"))))
      (AZ (AK 0 F_steps_at (A5 (mOp gIx (A0 0) (mC (.int 1))) (A5 (A0 1) AC))))
      B5)
    (AE (BM (Ak (mOp gEq (A0 2) (mC (.str "ends"))))
      (AZ (mOp Cg (mOp gIx (A0 0) (mC (.int 1))) (A0 1)))
      B5)
    (AE (AY 3 (mOp Hz (A0 1) (mOp gIx (A0 0) (mC (.int 1)))))
    (AE (BM (Ak (mOp gEq (A0 2) (mC (.str "late"))))
      (AZ (A0 3))
      B5)
    (AE (BM (Ak (mOp gLe (A0 3) (mC (.int 0))))
      (AZ (mC (.int 0)))
      B5)
    (AE (BM (Ak (mOp gEq (A0 2) (mC (.str "tardy"))))
      (AZ (mOp Cg (mOp gIx (A0 0) (mC (.int 2))) (A0 3)))
      B5)
    (AZ (mOp gIx (A0 0) (mC (.int 2)))))))))))
noncomputable def F_cost_at:List D->Hd->Option (D × Hd):=mkF 2 4 m_cost_at
noncomputable abbrev C9:Stmt:=top 13
theorem LN:FnScope ["works","some"] ["works","some"] (A9 C9):=⟨rfl,rfl,rfl,by decide +kernel,rfl,by decide +kernel,by decide +kernel⟩
@[reducible] noncomputable def IG:MS:=(AZ (Cp Em (BG 1 [0] (BS (A0 1)) (AG 0) BL (mOp gIx (mOp gIx (A0 1) (A0 0)) (mC (.int 0))))))
noncomputable def Do:List D->Hd->Option (D × Hd):=mkF 2 2 IG
noncomputable abbrev Bc:Stmt:=top 14
theorem sc_same_coming:FnScope ["works","coming"] ["works"] (A9 Bc):=⟨rfl,rfl,rfl,by decide +kernel,rfl,by decide +kernel,by decide +kernel⟩
@[reducible] noncomputable def Gn:MS:=(AE (AY 1 (mOp gIx (mOp gIx (A0 0) (mC (.int 0))) (mC (.int 1))))
    (AE (BM (GU (Cp Rv (BG 1 [1] (BS (A0 0)) (AG 0) BL (mOp gEq (mOp gIx (A0 0) (mC (.int 1))) (A0 1)))))
      (AZ (A0 1))
      B5)
    (AZ (mC .non))))
noncomputable def DG:List D->Hd->Option (D × Hd):=mkF 1 2 Gn
noncomputable abbrev Bv:Stmt:=top 15
theorem sc_one_coming:FnScope ["works","coming"] ["works"] (A9 Bv):=⟨rfl,rfl,rfl,by decide +kernel,rfl,by decide +kernel,by decide +kernel⟩
@[reducible] noncomputable def HM:MS:=(AE (AY 1 (AK 0 DG (A5 (A0 0) AC)))
    (AE (BM (Ak (Ly false (A0 1)))
      HV
      B5)
    (AZ (A0 1))))
noncomputable def DY:List D->Hd->Option (D × Hd):=mkF 1 2 HM
noncomputable abbrev Aw:Stmt:=top 16
theorem Fq:FnScope ["works","word"] ["works","word"] (A9 Aw):=⟨rfl,rfl,rfl,by decide +kernel,rfl,by decide +kernel,by decide +kernel⟩
@[reducible] noncomputable def E8:MS:=(BM (GU (Cp Ru (BG 1 [1] (BS (A0 0)) (AG 0) BL (mOp gNe (mOp gIx (mOp gIx (A0 0) (mC (.int 2))) (mC (.int 0))) (A0 1)))))
      HV
      B5)
noncomputable def Ba:List D->Hd->Option (D × Hd):=mkF 2 2 E8
noncomputable abbrev Bq:Stmt:=top 17
theorem LM:FnScope ["work"] ["work"] (A9 Bq):=⟨rfl,rfl,rfl,by decide +kernel,rfl,by decide +kernel,by decide +kernel⟩
@[reducible] noncomputable def ID:MS:=(AZ (mOp gIx (mOp gIx (A0 0) (mC (.int 2))) (HW (mC (.int 1)))))
noncomputable def Cb:List D->Hd->Option (D × Hd):=mkF 1 1 ID
noncomputable abbrev Ax:Stmt:=top 19
theorem sc_weighted_coming:FnScope ["works","coming"] ["works"] (A9 Ax):=⟨rfl,rfl,rfl,by decide +kernel,rfl,by decide +kernel,by decide +kernel⟩
@[reducible] noncomputable def Ep:MS:=(AE (AY 1 (AK 0 DY (A5 (A0 0) AC)))
    (AE (Cr (AK 0 Ba (A5 (A0 0) (A5 (mC (.str "ends")) AC))))
    (AZ (A0 1))))
noncomputable def BH:List D->Hd->Option (D × Hd):=mkF 1 2 Ep
noncomputable abbrev BV:Stmt:=top 20
theorem Md:FnScope ["works","some"] ["works","some"] (A9 BV):=⟨rfl,rfl,rfl,by decide +kernel,rfl,by decide +kernel,by decide +kernel⟩
@[reducible] noncomputable def JH:MS:=(AZ (AK 0 CW (A5 (Cp Em (BG 1 [0] (BS (A0 1)) (AG 0) BL (AK 0 Cb (A5 (mOp gIx (A0 1) (A0 0)) AC)))) (A5 (AK 0 Do (A5 (A0 0) (A5 (A0 1) AC))) AC))))
noncomputable def BR:List D->Hd->Option (D × Hd):=mkF 2 2 JH
noncomputable abbrev CY:Stmt:=top 34
theorem sc_row_of:FnScope ["works","wishes","a","line","block","many"] ["works","wishes","a"] (A9 CY):=⟨rfl,rfl,rfl,by decide +kernel,rfl,by decide +kernel,by decide +kernel⟩
@[reducible] noncomputable def IZ(Eg:List D->Hd->Option (D × Hd)):MS:=(AE (AY 3 (EA Eg (A5 (A0 0) (A5 (A0 1) (A5 (BF (BG 2 [2] (BS (A0 1)) (Bh 2 (AO (AG 0) (AO (AG 1) Bi))) (Ak (mOp gEq (A0 0) (A0 2))) (A0 1))) AC)))))
    (AE (AY 4 (CI (A5 (A0 2) AC)))
    (AE (AY 5 (mC (.int 0)))
    (AE (EZ (Jw (Ak (mOp gLt (A0 5) (mCB (f1 true CN) (A5 (A0 3) AC)))) (GU (AK 0 EC (A5 (AK 0 BR (A5 (A0 0) (A5 (A0 4) AC))) (A5 (AK 0 BR (A5 (A0 0) (A5 (mOp gIx (A0 3) (A0 5)) AC))) AC)))))
      (AE (AY 4 (mOp BI (A0 4) (mOp gIx (A0 3) (A0 5))))
    (Jv 5 (λ i j=>i + j) (mC (.int 1)))))
    (AZ (CI (A5 (A0 4) (A5 (BF (GV (A0 3) Dg (Ev (A0 5)))) (A5 (BF (GV (A0 3) (Ev (A0 5)) Dg)) AC)))))))))
noncomputable abbrev C8:Stmt:=top 35
theorem sc_line_of:FnScope ["works","wishes","some","blocks","a","block","taken","left"] ["works","wishes","some"] (A9 C8):=⟨rfl,rfl,rfl,by decide +kernel,rfl,by decide +kernel,by decide +kernel⟩
@[reducible] noncomputable def HP(FW:List D->Hd->Option (D × Hd)):MS:=(AE (AY 3 (BF (DV AC)))
    (AE (Cq (Ca (A0 2)) (AG 4)
      (HU (AE (FS (Ec FW (A5 (A0 0) (A5 (A0 1) (A5 (A0 4) AC)))) (Bh 3 (AO (AG 5) (AO (AG 6) (AO (AG 7) Bi)))))
    (Hx 3 (BF (Ju (BF (DV (A5 (A0 5) AC))) (A0 7)))))))
    (AZ (BF (BG 1 [3] (Ca (EA DZ (A5 (BF (BG 1 [0] (Ca (A0 3)) (AG 0) BL (AK 0 BR (A5 (A0 1) (A5 (A0 0) AC))))) AC))) (AG 0) BL (mOp gIx (A0 1) (A0 0)))))))
noncomputable def RR:Nat->(List D->Hd->Option (D × Hd)) × (List D->Hd->Option (D × Hd))
  | 0=>(λ _ _=>none,λ _ _=>none)
  | n + 1=>(mkF 3 6 (IZ (RR n).2),mkF 3 8 (HP (RR n).1))
noncomputable abbrev FV(n:Nat):List D->Hd->Option (D × Hd):=(RR n).1
theorem HI:∀ n ds hd z,FV n ds hd=some z->ds.length=3
  | 0,_,_,_,h=>nomatch h
  | n + 1,ds,hd,z,h=>AI ds hd z h
noncomputable abbrev FW:List D->Hd->Option (D × Hd):=FV 18
noncomputable abbrev Ef(n:Nat):List D->Hd->Option (D × Hd):=(RR n).2
theorem Gm:∀ n ds hd z,Ef n ds hd=some z->ds.length=3
  | 0,_,_,_,h=>nomatch h
  | n + 1,ds,hd,z,h=>AI ds hd z h
noncomputable abbrev Eg:List D->Hd->Option (D × Hd):=Ef 18
noncomputable abbrev Be:Stmt:=top 21
theorem sc_pair_sum_of:FnScope ["coming","lengths","weights","alone","pairs"] ["coming","lengths","weights"] (A9 Be):=⟨rfl,rfl,rfl,by decide +kernel,rfl,by decide +kernel,by decide +kernel⟩
@[reducible] noncomputable def Go:MS:=(AE (AY 3 (Cp Em (BG 2 [0] (HQ (Ca (A0 1)) (Ca (A0 2))) (Bh 2 (AO (AG 0) (AO (AG 1) Bi))) BL (mOp Cg (A0 1) (mOp BI (A0 2) (A0 0))))))
    (AE (AY 4 (Eb 2 [] (Ek (A5 (mCB (f1 true CN) (A5 (A0 1) AC)) AC)) (AG 0) BL (Ek (A5 (A0 0) AC)) (AG 1) BL (CI (A5 (A0 1) (A5 (A0 0) AC)))))
    (AZ (mOp BI (A0 3) (Cp Em (BG 2 [1,2] (Ca (A0 4)) (Bh 2 (AO (AG 0) (AO (AG 1) Bi))) BL (mCB JW (A5 (mOp Cg (mOp gIx (A0 2) (A0 0)) (mOp gIx (A0 3) (A0 1))) (A5 (mOp Cg (mOp gIx (A0 2) (A0 1)) (mOp gIx (A0 3) (A0 0))) AC)))))))))
noncomputable def DH:List D->Hd->Option (D × Hd):=mkF 3 5 Go
noncomputable abbrev CS:Stmt:=top 22
theorem sc_pair_sum:FnScope ["works","coming"] ["works"] (A9 CS):=⟨rfl,rfl,rfl,by decide +kernel,rfl,by decide +kernel,by decide +kernel⟩
@[reducible] noncomputable def JI:MS:=(AE (AY 1 (AK 0 BH (A5 (A0 0) AC)))
    (AZ (EA DH (A5 (A0 1) (A5 (BF (BG 1 [] (BS (A0 0)) (AG 0) BL (mOp gIx (A0 0) (mC (.int 0))))) (A5 (BF (BG 1 [] (BS (A0 0)) (AG 0) BL (AK 0 Cb (A5 (A0 0) AC)))) AC))))))
noncomputable def Cu:List D->Hd->Option (D × Hd):=mkF 1 2 JI
noncomputable abbrev FZ:Stmt:=top 24
theorem sc_run:FnScope ["works","order","pieces","end","work","length","coming","cost","begin"] ["works","order"] (A9 FZ):=⟨rfl,rfl,rfl,by decide +kernel,rfl,by decide +kernel,by decide +kernel⟩
@[reducible] noncomputable def m_run:MS:=(AE (AY 2 (BF (DV AC)))
    (AE (AY 3 (mC (.int 0)))
    (AE (Cq (BS (A0 1)) (AG 4)
      (AE (FS (mOp gIx (A0 0) (A0 4)) (Bh 3 (AO (AG 5) (AO (AG 6) (AO (AG 7) Bi)))))
    (AE (AY 8 (mCB Gg (A5 (A0 6) (A5 (A0 3) AC))))
    (AE (AY 3 (mOp BI (A0 8) (A0 5)))
    (Cr (mMt Bz (A0 2) (A5 (CI (A5 (A0 4) (A5 (A0 8) (A5 (A0 3) AC)))) AC)))))))
    (AZ (mCB (f1 true Bo) (A5 (A0 2) AC))))))
noncomputable def F_run:List D->Hd->Option (D × Hd):=mkF 2 9 m_run
noncomputable abbrev Ch:Stmt:=top 26
theorem sc_ends_of:FnScope ["works","plan","ends","work","begin","end"] ["works","plan"] (A9 Ch):=⟨rfl,rfl,rfl,by decide +kernel,rfl,by decide +kernel,by decide +kernel⟩
@[reducible] noncomputable def m_ends_of:MS:=(AE (AY 2 (BF (BG 1 [] (BS (A0 0)) (AG 0) BL (mC (.int 0)))))
    (AE (Cq (BS (A0 1)) (Bh 3 (AO (AG 3) (AO (AG 4) (AO (AG 5) Bi))))
      (E9 (A0 2) (A0 3) (A0 5)))
    (AZ (mCB (f1 true Bo) (A5 (A0 2) AC)))))
noncomputable def F_ends_of:List D->Hd->Option (D × Hd):=mkF 2 6 m_ends_of
noncomputable abbrev CT:Stmt:=top 28
theorem Me:FnScope ["works","ends"] ["works","ends"] (A9 CT):=⟨rfl,rfl,rfl,by decide +kernel,rfl,by decide +kernel,by decide +kernel⟩
@[reducible] noncomputable def m_costs_of:MS:=(AZ (Cp Bo (BG 2 [] (HQ (BS (A0 0)) (BS (A0 1))) (Bh 2 (AO (AG 0) (AO (AG 1) Bi))) BL (AK 0 F_cost_at (A5 (mOp gIx (A0 0) (mC (.int 2))) (A5 (A0 1) AC))))))
noncomputable def F_costs_of:List D->Hd->Option (D × Hd):=mkF 2 2 m_costs_of
noncomputable abbrev Dt:Stmt:=top 29
theorem sc_worth:FnScope ["works","ends","question","costs"] ["works","ends","question"] (A9 Dt):=⟨rfl,rfl,rfl,by decide +kernel,rfl,by decide +kernel,by decide +kernel⟩
@[reducible] noncomputable def m_worth:MS:=(AE (AY 3 (AK 0 F_costs_of (A5 (A0 0) (A5 (A0 1) AC))))
    (AE (BM (Ak (mOp gEq (A0 2) (mC (.str "greatest"))))
      (AZ (mCB (f1 true Rt) (A5 (A0 3) AC)))
      B5)
    (AZ (mCB (f1 true Em) (A5 (A0 3) AC)))))
noncomputable def F_worth:List D->Hd->Option (D × Hd):=mkF 3 4 m_worth
noncomputable abbrev CA:Stmt:=top 31
theorem LO:FnScope ["many","wishes"] ["many","wishes"] (A9 CA):=⟨rfl,rfl,rfl,by decide +kernel,rfl,by decide +kernel,by decide +kernel⟩
@[reducible] noncomputable def IH:MS:=(AZ (mOp gEq (Kj (JO 2 [] (BS (A0 1)) (Bh 2 (AO (AG 0) (AO (AG 1) Bi))) BL [] (Kk (A0 1)))) (mCB (f1 true CN) (A5 (A0 1) AC))))
noncomputable def Dp:List D->Hd->Option (D × Hd):=mkF 2 2 IH
noncomputable abbrev B1:Stmt:=top 33
theorem Gq:FnScope ["works","wishes"] ["works","wishes"] (A9 B1):=⟨rfl,rfl,rfl,by decide +kernel,rfl,by decide +kernel,by decide +kernel⟩
@[reducible] noncomputable def EY:MS:=(AE (Cr (AK 0 BH (A5 (A0 0) AC)))
    (BM (Jt (GU (AK 0 Dp (A5 (mCB (f1 true CN) (A5 (A0 0) AC)) (A5 (A0 1) AC)))))
      HV
      B5))
noncomputable def Bx:List D->Hd->Option (D × Hd):=mkF 2 2 EY
noncomputable abbrev DU:Stmt:=top 36
theorem sc_joined:FnScope ["works","wishes","seconds"] ["works","wishes"] (A9 DU):=⟨rfl,rfl,rfl,by decide +kernel,rfl,by decide +kernel,by decide +kernel⟩
@[reducible] noncomputable def Lv:MS:=(AE (Cr (AK 0 Bx (A5 (A0 0) (A5 (A0 1) AC))))
    (AE (AY 2 (BF (BG 2 [] (BS (A0 1)) (Bh 2 (AO (AG 0) (AO (AG 1) Bi))) BL (A0 1))))
    (AZ (EA Eg (A5 (A0 0) (A5 (A0 1) (A5 (BF (BG 1 [2] (Ek (A5 (mCB (f1 true CN) (A5 (A0 0) AC)) AC)) (AG 0) (Ak (mOp (gIn true) (A0 0) (A0 1))) (A0 0))) AC)))))))
noncomputable def FX:List D->Hd->Option (D × Hd):=mkF 2 3 Lv
noncomputable abbrev C7:Stmt:=top 37
theorem sc_prices_of:FnScope ["works","wishes","a","block","taken","left","ratios","entries","some","k","one"] ["works","wishes","a"] (A9 C7):=⟨rfl,rfl,rfl,by decide +kernel,rfl,by decide +kernel,by decide +kernel⟩
@[reducible] noncomputable def IE:MS:=(AE (FS (Ec FW (A5 (A0 0) (A5 (A0 1) (A5 (A0 2) AC)))) (Bh 3 (AO (AG 3) (AO (AG 4) (AO (AG 5) Bi)))))
    (AE (AY 6 (BF (Ju (BF (BG 1 [0] (Ca (A0 4)) (AG 0) BL (AK 0 BR (A5 (A0 1) (A5 (A0 0) AC))))) (BF (DV (A5 (AK 0 BR (A5 (A0 0) (A5 (A0 3) AC))) AC))))))
    (AE (AY 7 (BF (DV AC)))
    (AE (AY 8 (CI AC))
    (AE (Cq (Hw (Ca (A0 4))) (Bh 2 (AO (AG 9) (AO (AG 10) Bi)))
      (AE (AY 8 (Cp Bo (FC (BS (mOp Se (A0 8) (A0 10))))))
    (Cr (mMt Bz (A0 7) (A5 (CI (A5 (A0 2) (A5 (A0 8) (A5 (AK 0 GG (A5 (mOp gIx (A0 6) (A0 9)) (A5 (mOp gIx (A0 6) (mOp BI (A0 9) (mC (.int 1)))) AC))) AC)))) AC)))))
    (AZ (A0 7)))))))
noncomputable def Dn:List D->Hd->Option (D × Hd):=mkF 3 11 IE
noncomputable abbrev BU:Stmt:=top 38
theorem sc_forest_order:FnScope ["works","wishes","order","prices"] ["works","wishes"] (A9 BU):=⟨rfl,rfl,rfl,by decide +kernel,rfl,by decide +kernel,by decide +kernel⟩
@[reducible] noncomputable def Fx:MS:=(AE (AY 2 (Eb 2 [] (Ff (Ec FX (A5 (A0 0) (A5 (A0 1) AC)))) (AG 0) BL (BS (A0 0)) (AG 1) BL (A0 1)))
    (AE (AY 3 (Eb 2 [0,1] (Ek (A5 (mCB (f1 true CN) (A5 (A0 0) AC)) AC)) (AG 0) BL (Ff (Ec Dn (A5 (A0 2) (A5 (A0 3) (A5 (A0 0) AC))))) (AG 1) BL (A0 1)))
    (AZ (CI (A5 (mCB (f1 true Bo) (A5 (A0 2) AC)) (A5 (mCB (f1 true Bo) (A5 (A0 3) AC)) AC))))))
noncomputable def CD:List D->Hd->Option (D × Hd):=mkF 2 4 Fx
noncomputable abbrev ER:Stmt:=top 40
theorem T7:FnScope ["_law_script"] ["_law_script"] (A9 ER):=⟨rfl,rfl,rfl,by decide +kernel,rfl,by decide +kernel,by decide +kernel⟩
@[reducible] noncomputable def PK:MS:=(AZ (BF (DV (A5 (BF (JM (GV (A0 0) Dg (Ev (mC (.int 63)))))) (A5 (mC (.int 0)) (A5 (mC (.int 0)) (A5 (mC (.int 0)) AC)))))))
noncomputable def Hk:List D->Hd->Option (D × Hd):=mkF 1 1 PK
noncomputable abbrev E2:Stmt:=top 41
theorem sc_pick:FnScope ["_law_tape_here","_law_many","_law_found","_law_at","_law_cell","_law_mixed"] ["_law_tape_here","_law_many"] (A9 E2):=⟨rfl,rfl,rfl,by decide +kernel,rfl,by decide +kernel,by decide +kernel⟩
@[reducible] noncomputable def PL:MS:=(AE (E9 (A0 0) (mC (.int 3)) (mOp BI (mOp gIx (A0 0) (mC (.int 3))) (mC (.int 1))))
    (AE (BM (Ak (mOp gGt (mOp gIx (A0 0) (mC (.int 2))) (mC (.int 0))))
      (AE (AY 2 (mOp FT (mOp gIx (A0 0) (mC (.int 2))) (A0 1)))
    (AE (E9 (A0 0) (mC (.int 2)) (mOp Kl (mOp gIx (A0 0) (mC (.int 2))) (A0 1)))
    (AZ (A0 2))))
      B5)
    (AE (AY 3 (mOp gIx (A0 0) (mC (.int 1))))
    (AE (E9 (A0 0) (mC (.int 1)) (mOp BI (A0 3) (mC (.int 1))))
    (AE (AY 4 (mIf (Ak (GW true (mOp gIx (A0 0) (mC (.int 0))) (DV AC))) (mOp gIx (mOp gIx (A0 0) (mC (.int 0))) (mOp FT (A0 3) (mCB (f1 true CN) (A5 (mOp gIx (A0 0) (mC (.int 0))) AC)))) (mC (.int 6))))
    (AE (BM (Jw (Ak (mOp gGe (A0 4) (mOp WU (mC (.int 10)) (mC (.int 18))))) (Ak (mOp gLt (A0 3) (mCB (f1 true CN) (A5 (mOp gIx (A0 0) (mC (.int 0))) AC)))))
      (AE (E9 (A0 0) (mC (.int 2)) (mOp Kl (A0 4) (A0 1)))
    (AZ (mOp FT (A0 4) (A0 1))))
      B5)
    (AE (AY 5 (mOp FT (mOp BI (mOp BI (mOp FT (A0 4) (mC (.int 2147483647))) (mOp Cg (mC (.int 40503)) (mOp gIx (A0 0) (mC (.int 3))))) (mC (.int 11))) (mC (.int 2147483629))))
    (AE (AY 5 (mOp FT (mOp BI (mOp BI (mOp Cg (A0 5) (A0 5)) (mOp Cg (mC (.int 25717)) (mOp gIx (A0 0) (mC (.int 3))))) (mC (.int 3))) (mC (.int 2147483587))))
    (AE (AY 5 (mOp FT (mOp BI (mOp BI (mOp Cg (A0 5) (A0 5)) (mOp Cg (mC (.int 16807)) (A0 5))) (mC (.int 1))) (mC (.int 2147483579))))
    (AZ (mOp FT (mOp Kl (A0 5) (mC (.int 256))) (A0 1))))))))))))
noncomputable def By:List D->Hd->Option (D × Hd):=mkF 2 6 PL
noncomputable abbrev Fa:Stmt:=top 42
theorem sc_row:FnScope ["_law_tape_here","_law_many","_law_left","_law_row_here","_law_turn"] ["_law_tape_here","_law_many"] (A9 Fa):=⟨rfl,rfl,rfl,by decide +kernel,rfl,by decide +kernel,by decide +kernel⟩
@[reducible] noncomputable def Sa:MS:=(AE (FR [2,3] (A5 (BF (Ia (A5 (A0 1) AC))) (A5 (BF (DV AC)) AC)))
    (AE (Cq (Ek (A5 (A0 1) AC)) (AG 4)
      (Cr (mMt Bz (A0 3) (A5 (mMt He (A0 2) (A5 (AK 2 By (A5 (A0 0) (A5 (mCB (f1 true CN) (A5 (A0 2) AC)) AC))) AC)) AC))))
    (AZ (mCB (f1 true Bo) (A5 (A0 3) AC)))))
noncomputable def IC:List D->Hd->Option (D × Hd):=mkF 2 5 Sa
noncomputable abbrev ES:Stmt:=top 43
theorem sc_cost:FnScope ["_law_works","_law_order","_law_end","_law_found","_law_j"] ["_law_works","_law_order"] (A9 ES):=⟨rfl,rfl,rfl,by decide +kernel,rfl,by decide +kernel,by decide +kernel⟩
@[reducible] noncomputable def PP:MS:=(AE (FS (CI (A5 (mC (.int 0)) (A5 (mC (.int 0)) AC))) (Bh 2 (AO (AG 2) (AO (AG 3) Bi))))
    (AE (Cq (BS (A0 1)) (AG 4)
      (AE (AY 2 (mOp BI (A0 2) (mOp gIx (mOp gIx (A0 0) (A0 4)) (mC (.int 0)))))
    (AY 3 (mOp BI (A0 3) (mOp Cg (mOp gIx (mOp gIx (mOp gIx (A0 0) (A0 4)) (mC (.int 2))) (mC (.int 1))) (A0 2))))))
    (AZ (A0 3))))
noncomputable def GH:List D->Hd->Option (D × Hd):=mkF 2 5 PP
noncomputable abbrev DS:Stmt:=top 44
theorem Of:FnScope ["_law_works","_law_order"] ["_law_works","_law_order"] (A9 DS):=⟨rfl,rfl,rfl,by decide +kernel,rfl,by decide +kernel,by decide +kernel⟩
@[reducible] noncomputable def Lu:MS:=(AZ (AK 0 F_worth (A5 (A0 0) (A5 (AK 0 F_ends_of (A5 (A0 0) (A5 (AK 0 F_run (A5 (A0 0) (A5 (A0 1) AC))) AC))) (A5 (mC (.str "sum")) AC)))))
noncomputable def EK:List D->Hd->Option (D × Hd):=mkF 2 2 Lu
noncomputable abbrev EM:Stmt:=top 45
theorem sc_law:FnScope ["_law_script","_law_tape_here","_law_turn","_law_many","_law_top","_law_pairs","_law_j","_law_works","_law_other_works","_law_row_here","_law_some","_law_i","_law_wishes","_law_about","_law_order","_law_there","_law_least","_law_k"] ["_law_script"] (A9 EM):=⟨rfl,rfl,rfl,by decide +kernel,rfl,by decide +kernel,by decide +kernel⟩
@[reducible] noncomputable def Sb:MS:=(AE (AY 1 (EA Hk (A5 (A0 0) AC)))
    (AE (Cq (Ek (A5 (mC (.int 2)) AC)) (AG 2)
      (HU (AE (FR [3,4] (A5 (mOp BI (mC (.int 1)) (AK 2 By (A5 (A0 1) (A5 (mC (.int 8)) AC)))) (A5 (Lw (DV (A5 (mC (.int 9)) (A5 (mC (.int 3)) (A5 (mC (.int 1000000)) AC)))) (AK 2 By (A5 (A0 1) (A5 (mC (.int 3)) AC)))) AC)))
    (AE (AY 5 (BF (DV AC)))
    (AE (Cq (Ek (A5 (A0 3) AC)) (AG 6)
      (Cr (mMt Bz (A0 5) (A5 (CI (A5 (mOp BI (mC (.int 1)) (AK 2 By (A5 (A0 1) (A5 (A0 4) AC)))) (A5 (mOp BI (mC (.int 1)) (AK 2 By (A5 (A0 1) (A5 (A0 4) AC)))) AC))) AC))))
    (AE (AY 7 (Cp Bo (BG 2 [] (Ca (A0 5)) (Bh 2 (AO (AG 0) (AO (AG 1) Bi))) BL (CI (A5 (A0 0) (A5 (mC (.int 0)) (A5 (CI (A5 (mC (.str "ends")) (A5 (A0 1) AC))) AC)))))))
    (AE (AY 8 (Cp Bo (BG 2 [] (Ca (A0 5)) (Bh 2 (AO (AG 0) (AO (AG 1) Bi))) BL (CI (A5 (A0 1) (A5 (mC (.int 0)) (A5 (CI (A5 (mC (.str "ends")) (A5 (A0 0) AC))) AC)))))))
    (AE (AY 9 (AK 2 IC (A5 (A0 1) (A5 (A0 3) AC))))
    (AE (AY 10 (BF (DV AC)))
    (AE (Cq (JN (A5 (mC (.int 1)) (A5 (A0 3) AC))) (AG 11)
      (BM (Ak (mOp gGt (AK 2 By (A5 (A0 1) (A5 (mC (.int 3)) AC))) (mC (.int 0))))
      (Cr (mMt Bz (A0 10) (A5 (CI (A5 (mOp gIx (A0 9) (mOp Hz (A0 11) (mC (.int 1)))) (A5 (mOp gIx (A0 9) (A0 11)) AC))) AC)))
      B5))
    (AE (AY 12 (Cp Bo (EF (Ca (A0 10)))))
    (AE (AY 13 (Cp Bo (EF (Lx (BG 2 [] (Ca (A0 10)) (Bh 2 (AO (AG 0) (AO (AG 1) Bi))) BL (CI (A5 (A0 1) (A5 (A0 0) AC))))))))
    (AE (BM (Ak (mOp gNe (mCB GA (A5 (AK 0 Cu (A5 (A0 7) AC)) AC)) (mCB GA (A5 (AK 0 Cu (A5 (A0 8) AC)) AC))))
      (AZ (mC (.bl false)))
      B5)
    (AE (FR [14,15] (A5 (mOp gIx (AK 0 CD (A5 (A0 7) (A5 (A0 12) AC))) (mC (.int 0))) (A5 (mOp gIx (AK 0 CD (A5 (A0 8) (A5 (A0 13) AC))) (mC (.int 0))) AC)))
    (AE (AY 16 (AK 0 GH (A5 (A0 7) (A5 (A0 14) AC))))
    (AE (BM (mOr (Ak (mOp gNe (AK 0 GH (A5 (A0 8) (A5 (A0 15) AC))) (A0 16))) (Ak (mOp gLt (A0 16) (AK 0 Cu (A5 (A0 7) AC)))))
      (AZ (mC (.bl false)))
      B5)
    (BM (Ak (mOp gLt (A0 4) (mC (.int 10))))
      (Cq (Ek (A5 (mC (.int 4)) AC)) (AG 17)
      (AE (AY 14 (AK 2 IC (A5 (A0 1) (A5 (A0 3) AC))))
    (BM (Ak (mOp gNe (AK 0 EK (A5 (A0 7) (A5 (A0 14) AC))) (AK 0 EK (A5 (A0 8) (A5 (JL (A0 14) (HW (mC (.int 1)))) AC)))))
      (AZ (mC (.bl false)))
      B5)))
      B5)))))))))))))))))
    (AZ (mC (.bl true)))))
noncomputable def F_law:List D->Hd->Option (D × Hd):=mkF 1 18 Sb
section
variable{P:Program}{w:World}{K:PySem.W.Frag}{mg:Str->Option Value}{base:Heap}
theorem ok_common_divisor{f_common_divisor:Addr}{d_common_divisor:FuncData}(DA:DefAt K mg "common_divisor" BC f_common_divisor d_common_divisor ["one","other"]) (B:BltA mg):FnOk P w K mg base CX0 1 f_common_divisor d_common_divisor ["one","other"] (spF K 2 CJ):=by
  refine Af (N:=["one","other"]) (m:=FQ) DA sc_common_divisor λ cdv A outer s H E hr=>?_
  exact⟨_,(A8 K (AS K (i:=0) sc_common_divisor.nd rfl (by first|exact Or.inl rfl|exact Or.inr rfl) (CL K SB VM B.abs L2.bt_abs (A3 K (qv K 0) (A7 K))))
    (A8 K (Lg K (BK K ((JF).or (FB K hr.units)) (Ae HG HH) (qv K 1) (AA K))
      (AF K (HJ K (i:=0) (j:=1) rfl sc_common_divisor.nd rfl rfl (by decide) rfl rfl (A3 K (qv K 1) (A3 K (AX K E7 E3 (qv K 0) (qv K 1)) (A7 K))))))
    (AF K (AW K (qv K 0)))))⟩
theorem ok_fraction{f_fraction f_common_divisor:Addr}{d_fraction d_common_divisor:FuncData}(DA:DefAt K mg "fraction" C4 f_fraction d_fraction ["top","bottom"])(D_common_divisor:DefAt K mg "common_divisor" BC f_common_divisor d_common_divisor ["one","other"])(G_common_divisor:FnOk P w K mg base CX0 1 f_common_divisor d_common_divisor ["one","other"] (spF K 2 CJ))(B:BltA mg):FnOk P w K mg base CX0 2 f_fraction d_fraction ["top","bottom"] (spF K 2 CW):=by
  refine Af (N:=["top","bottom","shared"]) (m:=JJ) DA sc_fraction λ cdv A outer s H E hr=>?_
  exact⟨_,(A8 K (C5 K (BK K Hu Hr (qv K 1) (AA K))
      (AF K (HJ K (i:=0) (j:=1) rfl sc_fraction.nd rfl rfl (by decide) rfl rfl (A3 K (JA K (qv K 0)) (A3 K (JA K (qv K 1)) (A7 K)))))
      (BE K))
    (A8 K (AS K (i:=2) sc_fraction.nd rfl (by first|exact Or.inl rfl|exact Or.inr rfl) (AJ K 0 G_common_divisor hr D_common_divisor (A3 K (qv K 0) (A3 K (qv K 1) (A7 K))) AI))
    (AF K (AW K (Bw K (A3 K (AX K Ln LZ (qv K 0) (qv K 2)) (A3 K (AX K Ln LZ (qv K 1) (qv K 2)) (A7 K))))))))⟩
theorem ok_minus{f_minus f_fraction:Addr}{d_minus d_fraction:FuncData}(DA:DefAt K mg "minus" Du f_minus d_minus ["one","other"])(D_fraction:DefAt K mg "fraction" C4 f_fraction d_fraction ["top","bottom"])(G_fraction:FnOk P w K mg base CX0 2 f_fraction d_fraction ["top","bottom"] (spF K 2 CW))(B:BltA mg):FnOk P w K mg base CX0 3 f_minus d_minus ["one","other"] (spF K 2 GG):=by
  refine Af (N:=["one","other"]) (m:=N7) DA Qg λ cdv A outer s H E hr=>?_
  exact⟨_,(AF K (AW K (AJ K 0 G_fraction hr D_fraction (A3 K (AX K Ll LY (AX K C3 C2 (AQ K (qv K 0) (AA K)) (AQ K (qv K 1) (AA K))) (AX K C3 C2 (AQ K (qv K 1) (AA K)) (AQ K (qv K 0) (AA K)))) (A3 K (AX K C3 C2 (AQ K (qv K 0) (AA K)) (AQ K (qv K 1) (AA K))) (A7 K))) AI)))⟩
theorem ok_less{f_less:Addr}{d_less:FuncData}(DA:DefAt K mg "less" DT f_less d_less ["one","other"]) (B:BltA mg):FnOk P w K mg base CX0 1 f_less d_less ["one","other"] (spF K 2 EC):=by
  refine Af (N:=["one","other"]) (m:=PN) DA T8 λ cdv A outer s H E hr=>?_
  exact⟨_,(AF K (AW K (JC K Hu Hr (AX K C3 C2 (AQ K (qv K 0) (AA K)) (AQ K (qv K 1) (AA K))) (AX K C3 C2 (AQ K (qv K 1) (AA K)) (AQ K (qv K 0) (AA K))))))⟩
theorem ok_falling{f_falling f_less:Addr}{d_falling d_less:FuncData}(DA:DefAt K mg "falling" CB f_falling d_falling ["ratios"])(D_less:DefAt K mg "less" DT f_less d_less ["one","other"])(G_less:FnOk P w K mg base CX0 1 f_less d_less ["one","other"] (spF K 2 EC))(B:BltA mg):FnOk P w K mg base CX0 2 f_falling d_falling ["ratios"] (spF K 1 DZ):=by
  refine Af (N:=["ratios","row","k","ratio"]) (m:=KG) DA sc_falling λ cdv A outer s H E hr=>?_
  exact⟨_,(A8 K (AS K (i:=1) sc_falling.nd rfl (by first|exact Or.inl rfl|exact Or.inr rfl) (B7 K (DD K (A7 K))))
    (A8 K (DC K rfl (N0 K B.enumerate (Fu K (qv K 0))) (Bn K (n:=2) rfl (AN K (AD K (i:=2) sc_falling.nd rfl (by first|exact Or.inl rfl|exact Or.inr rfl)) (AN K (AD K (i:=3) sc_falling.nd rfl (by first|exact Or.inl rfl|exact Or.inr rfl)) (BJ K))))
      (AF K (De K (GP K PySem.F.slot_list_insert PySem.F.type_list_insert PB Oh (qv K 1) (A3 K (GQ K (Bg K) Cz B.len L2.bt_len (BB K (loc:=["j"]) (fr:=["ratios","ratio"]) (ix:=[0,3]) rfl ⟨rfl,by decide +kernel,rfl,rfl,rfl,by decide +kernel⟩ (Df K (qv K 1)) (λ _ _ _=>(AD K (i:=0) (show(["j","ratios","ratio"]:List Str).Nodup from by decide +kernel) rfl (by first|exact Or.inl rfl|exact Or.inr rfl))) (λ _ _ _=>(Lj K (Os K (FM K (AJ K 0 G_less hr D_less (A3 K (AQ K (qv K 1) (qv K 0)) (A3 K (qv K 2) (A7 K))) AI))))) (λ _ _ _=>(qv K 0)))) (A3 K (qv K 2) (A7 K)))))))
    (AF K (AW K (qv K 1)))))⟩
theorem ok_steps_at{f_steps_at:Addr}{d_steps_at:FuncData}(DA:DefAt K mg "steps_at" CQ f_steps_at d_steps_at ["rows","t"]) (B:BltA mg):FnOk P w K mg base CX0 1 f_steps_at d_steps_at ["rows","t"] (spF K 2 F_steps_at):=by
  refine Af (N:=["rows","t","told","begin","amount"]) (m:=m_steps_at) DA sc_steps_at λ cdv A outer s H E hr=>?_
  exact⟨_,(A8 K (AS K (i:=2) sc_steps_at.nd rfl (by first|exact Or.inl rfl|exact Or.inr rfl) (AA K))
    (A8 K (DC K rfl (Bm K (qv K 0)) (Bn K (n:=2) rfl (AN K (AD K (i:=3) sc_steps_at.nd rfl (by first|exact Or.inl rfl|exact Or.inr rfl)) (AN K (AD K (i:=4) sc_steps_at.nd rfl (by first|exact Or.inl rfl|exact Or.inr rfl)) (BJ K))))
      (A8 K (C5 K (BK K Nu Nj (qv K 3) (qv K 1))
      (AF K (AW K (qv K 2)))
      (BE K))
    (AF K (AS K (i:=2) sc_steps_at.nd rfl (by first|exact Or.inl rfl|exact Or.inr rfl) (qv K 4)))))
    (AF K (AW K (qv K 2)))))⟩
theorem ok_cost_at{f_cost_at f_steps_at:Addr}{d_cost_at d_steps_at:FuncData}(DA:DefAt K mg "cost_at" Ci f_cost_at d_cost_at ["cost","t"])(D_steps_at:DefAt K mg "steps_at" CQ f_steps_at d_steps_at ["rows","t"])(G_steps_at:FnOk P w K mg base CX0 1 f_steps_at d_steps_at ["rows","t"] (spF K 2 F_steps_at))(B:BltA mg):FnOk P w K mg base CX0 2 f_cost_at d_cost_at ["cost","t"] (spF K 2 F_cost_at):=by
  refine Af (N:=["cost","t","word","above"]) (m:=m_cost_at) DA sc_cost_at λ cdv A outer s H E hr=>?_
  exact⟨_,(A8 K (AS K (i:=2) sc_cost_at.nd rfl (by first|exact Or.inl rfl|exact Or.inr rfl) (AQ K (qv K 0) (AA K)))
    (A8 K (C5 K (BK K ((Fb).or (Dv K hr.units)) (Ae EV EW) (qv K 2) (E4 K))
      (AF K (AW K (AJ K 0 G_steps_at hr D_steps_at (A3 K (AQ K (qv K 0) (AA K)) (A3 K (qv K 1) (A7 K))) AI)))
      (BE K))
    (A8 K (C5 K (BK K ((Fb).or (Dv K hr.units)) (Ae EV EW) (qv K 2) (E4 K))
      (AF K (AW K (AX K C3 C2 (AQ K (qv K 0) (AA K)) (qv K 1))))
      (BE K))
    (A8 K (AS K (i:=3) sc_cost_at.nd rfl (by first|exact Or.inl rfl|exact Or.inr rfl) (AX K Ll LY (qv K 1) (AQ K (qv K 0) (AA K))))
    (A8 K (C5 K (BK K ((Fb).or (Dv K hr.units)) (Ae EV EW) (qv K 2) (E4 K))
      (AF K (AW K (qv K 3)))
      (BE K))
    (A8 K (C5 K (BK K XV XH (qv K 3) (AA K))
      (AF K (AW K (AA K)))
      (BE K))
    (A8 K (C5 K (BK K ((Fb).or (Dv K hr.units)) (Ae EV EW) (qv K 2) (E4 K))
      (AF K (AW K (AX K C3 C2 (AQ K (qv K 0) (AA K)) (qv K 3))))
      (BE K))
    (AF K (AW K (AQ K (qv K 0) (AA K)))))))))))⟩
theorem ok_length_of{f_length_of:Addr}{d_length_of:FuncData}(DA:DefAt K mg "length_of" C9 f_length_of d_length_of ["works","some"]) (B:BltA mg):FnOk P w K mg base CX0 1 f_length_of d_length_of ["works","some"] (spF K 2 Do):=by
  refine Af (N:=["works","some"]) (m:=IG) DA LN λ cdv A outer s H E hr=>?_
  exact⟨_,(AF K (AW K (GQ K ((Ee K rfl).or (EB K rfl)) HE B.sum L2.bt_sum (BB K (loc:=["j"]) (fr:=["works"]) (ix:=[0]) rfl ⟨rfl,by decide +kernel,rfl,rfl,rfl,by decide +kernel⟩ (Bm K (qv K 1)) (λ _ _ _=>(AD K (i:=0) (show(["j","works"]:List Str).Nodup from by decide +kernel) rfl (by first|exact Or.inl rfl|exact Or.inr rfl))) (λ _ _ _=>(At K)) (λ _ _ _=>(AQ K (AQ K (qv K 1) (qv K 0)) (AA K)))))))⟩
theorem ok_same_coming{f_same_coming:Addr}{d_same_coming:FuncData}(DA:DefAt K mg "same_coming" Bc f_same_coming d_same_coming ["works"]) (B:BltA mg):FnOk P w K mg base CX0 1 f_same_coming d_same_coming ["works"] (spF K 1 DG):=by
  refine Af (N:=["works","coming"]) (m:=Gn) DA sc_same_coming λ cdv A outer s H E hr=>?_
  exact⟨_,(A8 K (AS K (i:=1) sc_same_coming.nd rfl (by first|exact Or.inl rfl|exact Or.inr rfl) (AQ K (AQ K (qv K 0) (AA K)) (AA K)))
    (A8 K (C5 K (FM K (GQ K (Py K rfl) VL B.all L2.bt_all (BB K (loc:=["work"]) (fr:=["coming"]) (ix:=[1]) rfl ⟨rfl,by decide +kernel,rfl,rfl,rfl,by decide +kernel⟩ (Bm K (qv K 0)) (λ _ _ _=>(AD K (i:=0) (show(["work","coming"]:List Str).Nodup from by decide +kernel) rfl (by first|exact Or.inl rfl|exact Or.inr rfl))) (λ _ _ _=>(At K)) (λ _ _ _=>(JC K ((Fb).or (Dv K hr.units)) (Ae EV EW) (AQ K (qv K 0) (AA K)) (qv K 1))))))
      (AF K (AW K (qv K 1)))
      (BE K))
    (AF K (AW K (Vb K)))))⟩
theorem ok_one_coming{f_one_coming f_same_coming:Addr}{d_one_coming d_same_coming:FuncData}(DA:DefAt K mg "one_coming" Bv f_one_coming d_one_coming ["works"])(D_same_coming:DefAt K mg "same_coming" Bc f_same_coming d_same_coming ["works"])(G_same_coming:FnOk P w K mg base CX0 1 f_same_coming d_same_coming ["works"] (spF K 1 DG))(B:BltA mg):FnOk P w K mg base CX0 2 f_one_coming d_one_coming ["works"] (spF K 1 DY):=by
  refine Af (N:=["works","coming"]) (m:=HM) DA sc_one_coming λ cdv A outer s H E hr=>?_
  exact⟨_,(A8 K (AS K (i:=1) sc_one_coming.nd rfl (by first|exact Or.inl rfl|exact Or.inr rfl) (AJ K 0 G_same_coming hr D_same_coming (A3 K (qv K 0) (A7 K)) AI))
    (A8 K (C5 K (VY K (qv K 1))
      (AF K (IU K))
      (BE K))
    (AF K (AW K (qv K 1)))))⟩
theorem ok_refuse_other_costs{f_refuse_other_costs:Addr}{d_refuse_other_costs:FuncData}(DA:DefAt K mg "refuse_other_costs" Aw f_refuse_other_costs d_refuse_other_costs ["works","word"]) (B:BltA mg):FnOk P w K mg base CX0 1 f_refuse_other_costs d_refuse_other_costs ["works","word"] (spF K 2 Ba):=by
  refine Af (N:=["works","word"]) (m:=E8) DA Fq λ cdv A outer s H E hr=>?_
  exact⟨_,(AF K (C5 K (FM K (GQ K (Px K rfl) VJ B.any L2.bt_any (BB K (loc:=["work"]) (fr:=["word"]) (ix:=[1]) rfl ⟨rfl,by decide +kernel,rfl,rfl,rfl,by decide +kernel⟩ (Bm K (qv K 0)) (λ _ _ _=>(AD K (i:=0) (show(["work","word"]:List Str).Nodup from by decide +kernel) rfl (by first|exact Or.inl rfl|exact Or.inr rfl))) (λ _ _ _=>(At K)) (λ _ _ _=>(JC K ((JF).or (FB K hr.units)) (Ae HG HH) (AQ K (AQ K (qv K 0) (AA K)) (AA K)) (qv K 1))))))
      (AF K (IU K))
      (BE K)))⟩
theorem ok_weight_of{f_weight_of:Addr}{d_weight_of:FuncData}(DA:DefAt K mg "weight_of" Bq f_weight_of d_weight_of ["work"]) (B:BltA mg):FnOk P w K mg base CX0 1 f_weight_of d_weight_of ["work"] (spF K 1 Cb):=by
  refine Af (N:=["work"]) (m:=ID) DA LM λ cdv A outer s H E hr=>?_
  exact⟨_,(AF K (AW K (AQ K (AQ K (qv K 0) (AA K)) (JA K (AA K)))))⟩
theorem ok_weighted_coming{f_weighted_coming f_one_coming f_refuse_other_costs:Addr}{d_weighted_coming d_one_coming d_refuse_other_costs:FuncData}(DA:DefAt K mg "weighted_coming" Ax f_weighted_coming d_weighted_coming ["works"])(D_one_coming:DefAt K mg "one_coming" Bv f_one_coming d_one_coming ["works"])(G_one_coming:FnOk P w K mg base CX0 2 f_one_coming d_one_coming ["works"] (spF K 1 DY))(D_refuse_other_costs:DefAt K mg "refuse_other_costs" Aw f_refuse_other_costs d_refuse_other_costs ["works","word"])(G_refuse_other_costs:FnOk P w K mg base CX0 1 f_refuse_other_costs d_refuse_other_costs ["works","word"] (spF K 2 Ba))(B:BltA mg):FnOk P w K mg base CX0 3 f_weighted_coming d_weighted_coming ["works"] (spF K 1 BH):=by
  refine Af (N:=["works","coming"]) (m:=Ep) DA sc_weighted_coming λ cdv A outer s H E hr=>?_
  exact⟨_,(A8 K (AS K (i:=1) sc_weighted_coming.nd rfl (by first|exact Or.inl rfl|exact Or.inr rfl) (AJ K 0 G_one_coming hr D_one_coming (A3 K (qv K 0) (A7 K)) AI))
    (A8 K (De K (AJ K 0 G_refuse_other_costs hr D_refuse_other_costs (A3 K (qv K 0) (A3 K (E4 K) (A7 K))) AI))
    (AF K (AW K (qv K 1)))))⟩
theorem ok_ratio_of{f_ratio_of f_fraction f_length_of f_weight_of:Addr}{d_ratio_of d_fraction d_length_of d_weight_of:FuncData}(DA:DefAt K mg "ratio_of" BV f_ratio_of d_ratio_of ["works","some"])(D_fraction:DefAt K mg "fraction" C4 f_fraction d_fraction ["top","bottom"])(G_fraction:FnOk P w K mg base CX0 2 f_fraction d_fraction ["top","bottom"] (spF K 2 CW))(D_length_of:DefAt K mg "length_of" C9 f_length_of d_length_of ["works","some"])(G_length_of:FnOk P w K mg base CX0 1 f_length_of d_length_of ["works","some"] (spF K 2 Do))(D_weight_of:DefAt K mg "weight_of" Bq f_weight_of d_weight_of ["work"])(G_weight_of:FnOk P w K mg base CX0 1 f_weight_of d_weight_of ["work"] (spF K 1 Cb))(B:BltA mg):FnOk P w K mg base CX0 3 f_ratio_of d_ratio_of ["works","some"] (spF K 2 BR):=by
  refine Af (N:=["works","some"]) (m:=JH) DA Md λ cdv A outer s H E hr=>?_
  exact⟨_,(AF K (AW K (AJ K 0 G_fraction hr D_fraction (A3 K (GQ K ((Ee K rfl).or (EB K rfl)) HE B.sum L2.bt_sum (BB K (loc:=["j"]) (fr:=["works"]) (ix:=[0]) rfl ⟨rfl,by decide +kernel,rfl,rfl,rfl,by decide +kernel⟩ (Bm K (qv K 1)) (λ _ _ _=>(AD K (i:=0) (show(["j","works"]:List Str).Nodup from by decide +kernel) rfl (by first|exact Or.inl rfl|exact Or.inr rfl))) (λ _ _ _=>(At K)) (λ _ _ _=>(AJ K 0 G_weight_of hr D_weight_of (A3 K (AQ K (qv K 1) (qv K 0)) (A7 K)) AI)))) (A3 K (AJ K 0 G_length_of hr D_length_of (A3 K (qv K 0) (A3 K (qv K 1) (A7 K))) AI) (A7 K))) AI)))⟩
theorem okm{f_row_of f_line_of f_less f_falling f_ratio_of:Addr}{d_row_of d_line_of d_less d_falling d_ratio_of:FuncData}(D_row_of:DefAt K mg "row_of" CY f_row_of d_row_of ["works","wishes","a"])(D_line_of:DefAt K mg "line_of" C8 f_line_of d_line_of ["works","wishes","some"])(D_less:DefAt K mg "less" DT f_less d_less ["one","other"])(G_less:FnOk P w K mg base CX0 1 f_less d_less ["one","other"] (spF K 2 EC))(D_falling:DefAt K mg "falling" CB f_falling d_falling ["ratios"])(G_falling:FnOk P w K mg base CX0 2 f_falling d_falling ["ratios"] (spF K 1 DZ))(D_ratio_of:DefAt K mg "ratio_of" BV f_ratio_of d_ratio_of ["works","some"])(G_ratio_of:FnOk P w K mg base CX0 3 f_ratio_of d_ratio_of ["works","some"] (spF K 2 BR))(B:BltA mg):∀ n,FnOk P w K mg base CX0 (n + 4) f_row_of d_row_of ["works","wishes","a"] (spF K 3 (FV n))/\FnOk P w K mg base CX0 (n + 4) f_line_of d_line_of ["works","wishes","some"] (spF K 3 (Ef n))
  | 0=>⟨⟨λ vs H Q E h=>h.1,λ A outer s H args us vs Q E hr e0 hb hv h=>by obtain⟨_,_,_,_,_,_,_,_,e,_⟩:=h;cases e⟩,⟨λ vs H Q E h=>h.1,λ A outer s H args us vs Q E hr e0 hb hv h=>by obtain⟨_,_,_,_,_,_,_,_,e,_⟩:=h;cases e⟩⟩
  | n + 1=>by
    have ih:=okm D_row_of D_line_of D_less G_less D_falling G_falling D_ratio_of G_ratio_of B n
    constructor
    . refine Af (j:=n + 4) (N:=["works","wishes","a","line","block","many"]) (m:=IZ (Ef n)) D_row_of sc_row_of λ cdv A outer s H E hr=>?_
      exact⟨_,(A8 K (AS K (i:=3) sc_row_of.nd rfl (by first|exact Or.inl rfl|exact Or.inr rfl) (FN K ih.2 hr D_line_of (A3 K (qv K 0) (A3 K (qv K 1) (A3 K (B7 K (BB K (loc:=["one","b"]) (fr:=["a"]) (ix:=[2]) rfl ⟨rfl,by decide +kernel,rfl,rfl,rfl,by decide +kernel⟩ (Bm K (qv K 1)) (λ _ _ _=>(Bn K (n:=2) rfl (AN K (AD K (i:=0) (show(["one","b","a"]:List Str).Nodup from by decide +kernel) rfl (by first|exact Or.inl rfl|exact Or.inr rfl)) (AN K (AD K (i:=1) (show(["one","b","a"]:List Str).Nodup from by decide +kernel) rfl (by first|exact Or.inl rfl|exact Or.inr rfl)) (BJ K))))) (λ _ _ _=>(Lj K (BK K ((Fb).or (Dv K hr.units)) (Ae EV EW) (qv K 0) (qv K 2)))) (λ _ _ _=>(qv K 1)))) (A7 K)))) (Gm _) (Nat.le_refl _)))
    (A8 K (AS K (i:=4) sc_row_of.nd rfl (by first|exact Or.inl rfl|exact Or.inr rfl) (Bw K (A3 K (qv K 2) (A7 K))))
    (A8 K (AS K (i:=5) sc_row_of.nd rfl (by first|exact Or.inl rfl|exact Or.inr rfl) (AA K))
    (A8 K (Lg K (QW.toT (Oq K (BK K Hu Hr (qv K 5) (CL K (Bg K) (DK Cz) B.len L2.bt_len (A3 K (qv K 3) (A7 K)))) (My K (FM K (AJ K 0 G_less hr D_less (A3 K (AJ K 0 G_ratio_of hr D_ratio_of (A3 K (qv K 0) (A3 K (qv K 4) (A7 K))) AI (by omega)) (A3 K (AJ K 0 G_ratio_of hr D_ratio_of (A3 K (qv K 0) (A3 K (AQ K (qv K 3) (qv K 5)) (A7 K))) AI (by omega)) (A7 K))) AI (by omega))))))
      (A8 K (AS K (i:=4) sc_row_of.nd rfl (by first|exact Or.inl rfl|exact Or.inr rfl) (AX K ((BX).or (B4 K)) (Ae BW BD) (qv K 4) (AQ K (qv K 3) (qv K 5))))
    (AF K (VZ K (i:=5) sc_row_of.nd rfl (by first|exact Or.inl rfl|exact Or.inr rfl) (AA K) WM))))
    (AF K (AW K (Bw K (A3 K (qv K 4) (A3 K (B7 K (Li K (qv K 3) (Jn K) (Jm K (qv K 5)))) (A3 K (B7 K (Li K (qv K 3) (Jm K (qv K 5)) (Jn K))) (A7 K)))))))))))⟩
    . refine Af (j:=n + 4) (N:=["works","wishes","some","blocks","a","block","taken","left"]) (m:=HP (FV n)) D_line_of sc_line_of λ cdv A outer s H E hr=>?_
      exact⟨_,(A8 K (AS K (i:=3) sc_line_of.nd rfl (by first|exact Or.inl rfl|exact Or.inr rfl) (B7 K (DD K (A7 K))))
    (A8 K (DC K rfl (Df K (qv K 2)) (AD K (i:=4) sc_line_of.nd rfl (by first|exact Or.inl rfl|exact Or.inr rfl))
      (KB K (A8 K (J7 K (EE K ih.1 hr D_row_of (A3 K (qv K 0) (A3 K (qv K 1) (A3 K (qv K 4) (A7 K)))) (HI _) (Nat.le_refl _)) (Bn K (n:=3) rfl (AN K (AD K (i:=5) sc_line_of.nd rfl (by first|exact Or.inl rfl|exact Or.inr rfl)) (AN K (AD K (i:=6) sc_line_of.nd rfl (by first|exact Or.inl rfl|exact Or.inr rfl)) (AN K (AD K (i:=7) sc_line_of.nd rfl (by first|exact Or.inl rfl|exact Or.inr rfl)) (BJ K))))))
    (AF K (Tj (i:=3) sc_line_of.nd rfl (by first|exact Or.inl rfl|exact Or.inr rfl) (B7 K (Ot K (B7 K (DD K (A3 K (qv K 5) (A7 K)))) (qv K 7))))))))
    (AF K (AW K (B7 K (BB K (loc:=["k"]) (fr:=["blocks"]) (ix:=[3]) rfl ⟨rfl,by decide +kernel,rfl,rfl,rfl,by decide +kernel⟩ (Df K (FN K G_falling hr D_falling (A3 K (B7 K (BB K (loc:=["block"]) (fr:=["works"]) (ix:=[0]) rfl ⟨rfl,by decide +kernel,rfl,rfl,rfl,by decide +kernel⟩ (Df K (qv K 3)) (λ _ _ _=>(AD K (i:=0) (show(["block","works"]:List Str).Nodup from by decide +kernel) rfl (by first|exact Or.inl rfl|exact Or.inr rfl))) (λ _ _ _=>(At K)) (λ _ _ _=>(AJ K 0 G_ratio_of hr D_ratio_of (A3 K (qv K 1) (A3 K (qv K 0) (A7 K))) AI (by omega))))) (A7 K)) AI (by omega))) (λ _ _ _=>(AD K (i:=0) (show(["k","blocks"]:List Str).Nodup from by decide +kernel) rfl (by first|exact Or.inl rfl|exact Or.inr rfl))) (λ _ _ _=>(At K)) (λ _ _ _=>(AQ K (qv K 1) (qv K 0)))))))))⟩
theorem ok_row_of{f_row_of f_line_of f_less f_falling f_ratio_of:Addr}{d_row_of d_line_of d_less d_falling d_ratio_of:FuncData}(DA:DefAt K mg "row_of" CY f_row_of d_row_of ["works","wishes","a"])(D_less:DefAt K mg "less" DT f_less d_less ["one","other"])(G_less:FnOk P w K mg base CX0 1 f_less d_less ["one","other"] (spF K 2 EC))(D_falling:DefAt K mg "falling" CB f_falling d_falling ["ratios"])(G_falling:FnOk P w K mg base CX0 2 f_falling d_falling ["ratios"] (spF K 1 DZ))(D_ratio_of:DefAt K mg "ratio_of" BV f_ratio_of d_ratio_of ["works","some"])(G_ratio_of:FnOk P w K mg base CX0 3 f_ratio_of d_ratio_of ["works","some"] (spF K 2 BR))(D_line_of:DefAt K mg "line_of" C8 f_line_of d_line_of ["works","wishes","some"])(B:BltA mg):FnOk P w K mg base CX0 22 f_row_of d_row_of ["works","wishes","a"] (spF K 3 FW):=(okm DA D_line_of D_less G_less D_falling G_falling D_ratio_of G_ratio_of B 18).1
theorem ok_line_of{f_row_of f_line_of f_less f_falling f_ratio_of:Addr}{d_row_of d_line_of d_less d_falling d_ratio_of:FuncData}(DA:DefAt K mg "line_of" C8 f_line_of d_line_of ["works","wishes","some"])(D_less:DefAt K mg "less" DT f_less d_less ["one","other"])(G_less:FnOk P w K mg base CX0 1 f_less d_less ["one","other"] (spF K 2 EC))(D_falling:DefAt K mg "falling" CB f_falling d_falling ["ratios"])(G_falling:FnOk P w K mg base CX0 2 f_falling d_falling ["ratios"] (spF K 1 DZ))(D_ratio_of:DefAt K mg "ratio_of" BV f_ratio_of d_ratio_of ["works","some"])(G_ratio_of:FnOk P w K mg base CX0 3 f_ratio_of d_ratio_of ["works","some"] (spF K 2 BR))(D_row_of:DefAt K mg "row_of" CY f_row_of d_row_of ["works","wishes","a"])(B:BltA mg):FnOk P w K mg base CX0 22 f_line_of d_line_of ["works","wishes","some"] (spF K 3 Eg):=(okm D_row_of DA D_less G_less D_falling G_falling D_ratio_of G_ratio_of B 18).2
theorem ok_pair_sum_of{f_pair_sum_of:Addr}{d_pair_sum_of:FuncData}(DA:DefAt K mg "pair_sum_of" Be f_pair_sum_of d_pair_sum_of ["coming","lengths","weights"]) (B:BltA mg):FnOk P w K mg base CX0 1 f_pair_sum_of d_pair_sum_of ["coming","lengths","weights"] (spF K 3 DH):=by
  refine Af (N:=["coming","lengths","weights","alone","pairs"]) (m:=Go) DA sc_pair_sum_of λ cdv A outer s H E hr=>?_
  exact⟨_,(A8 K (AS K (i:=3) sc_pair_sum_of.nd rfl (by first|exact Or.inl rfl|exact Or.inr rfl) (GQ K ((Ee K rfl).or (EB K rfl)) HE B.sum L2.bt_sum (BB K (loc:=["length","weight"]) (fr:=["coming"]) (ix:=[0]) rfl ⟨rfl,by decide +kernel,rfl,rfl,rfl,by decide +kernel⟩ (Ou K B.zip (Fu K (qv K 1)) (Fu K (qv K 2))) (λ _ _ _=>(Bn K (n:=2) rfl (AN K (AD K (i:=0) (show(["length","weight","coming"]:List Str).Nodup from by decide +kernel) rfl (by first|exact Or.inl rfl|exact Or.inr rfl)) (AN K (AD K (i:=1) (show(["length","weight","coming"]:List Str).Nodup from by decide +kernel) rfl (by first|exact Or.inl rfl|exact Or.inr rfl)) (BJ K))))) (λ _ _ _=>(At K)) (λ _ _ _=>(AX K C3 C2 (qv K 1) (AX K ((BX).or (B4 K)) (Ae BW BD) (qv K 2) (qv K 0)))))))
    (A8 K (by first|exact IT K (i:=4) (loc:=["j","i"]) (fr:=[]) (ix:=[]) sc_pair_sum_of.nd rfl rfl rfl ⟨rfl,by decide +kernel,rfl,rfl,rfl,by decide +kernel⟩ (Ce K B.range (A3 K (CL K (Bg K) (DK Cz) B.len L2.bt_len (A3 K (qv K 1) (A7 K))) (A7 K))) (λ _ _ _=>(AD K (i:=0) (show(["j","i"]:List Str).Nodup from by decide +kernel) rfl (by first|exact Or.inl rfl|exact Or.inr rfl))) (λ _ _ _=>(At K)) (λ _ _ _=>(Ce K B.range (A3 K (qv K 0) (A7 K)))) (λ _ _ _=>(AD K (i:=1) (show(["j","i"]:List Str).Nodup from by decide +kernel) rfl (by first|exact Or.inl rfl|exact Or.inr rfl))) (λ _ _ _=>(At K)) (λ _ _ _=>(Bw K (A3 K (qv K 1) (A3 K (qv K 0) (A7 K)))))|exact AS K (i:=4) sc_pair_sum_of.nd rfl (by first|exact Or.inl rfl|exact Or.inr rfl) (GR K (loc:=["j","i"]) (fr:=[]) (ix:=[]) rfl ⟨rfl,by decide +kernel,rfl,rfl,rfl,by decide +kernel⟩ (Ce K B.range (A3 K (CL K (Bg K) (DK Cz) B.len L2.bt_len (A3 K (qv K 1) (A7 K))) (A7 K))) (λ _ _ _=>(AD K (i:=0) (show(["j","i"]:List Str).Nodup from by decide +kernel) rfl (by first|exact Or.inl rfl|exact Or.inr rfl))) (λ _ _ _=>(At K)) (λ _ _ _=>(Ce K B.range (A3 K (qv K 0) (A7 K)))) (λ _ _ _=>(AD K (i:=1) (show(["j","i"]:List Str).Nodup from by decide +kernel) rfl (by first|exact Or.inl rfl|exact Or.inr rfl))) (λ _ _ _=>(At K)) (λ _ _ _=>(Bw K (A3 K (qv K 1) (A3 K (qv K 0) (A7 K)))))))
    (AF K (AW K (AX K ((BX).or (B4 K)) (Ae BW BD) (qv K 3) (GQ K ((Ee K rfl).or (EB K rfl)) HE B.sum L2.bt_sum (BB K (loc:=["i","j"]) (fr:=["lengths","weights"]) (ix:=[1,2]) rfl ⟨rfl,by decide +kernel,rfl,rfl,rfl,by decide +kernel⟩ (Df K (qv K 4)) (λ _ _ _=>(Bn K (n:=2) rfl (AN K (AD K (i:=0) (show(["i","j","lengths","weights"]:List Str).Nodup from by decide +kernel) rfl (by first|exact Or.inl rfl|exact Or.inr rfl)) (AN K (AD K (i:=1) (show(["i","j","lengths","weights"]:List Str).Nodup from by decide +kernel) rfl (by first|exact Or.inl rfl|exact Or.inr rfl)) (BJ K))))) (λ _ _ _=>(At K)) (λ _ _ _=>(CL K (Pt rfl) TX B.min L2.bt_min (A3 K (AX K C3 C2 (AQ K (qv K 2) (qv K 0)) (AQ K (qv K 3) (qv K 1))) (A3 K (AX K C3 C2 (AQ K (qv K 2) (qv K 1)) (AQ K (qv K 3) (qv K 0))) (A7 K))))))))))))⟩
theorem ok_pair_sum{f_pair_sum f_weight_of f_weighted_coming f_pair_sum_of:Addr}{d_pair_sum d_weight_of d_weighted_coming d_pair_sum_of:FuncData}(DA:DefAt K mg "pair_sum" CS f_pair_sum d_pair_sum ["works"])(D_weight_of:DefAt K mg "weight_of" Bq f_weight_of d_weight_of ["work"])(G_weight_of:FnOk P w K mg base CX0 1 f_weight_of d_weight_of ["work"] (spF K 1 Cb))(D_weighted_coming:DefAt K mg "weighted_coming" Ax f_weighted_coming d_weighted_coming ["works"])(G_weighted_coming:FnOk P w K mg base CX0 3 f_weighted_coming d_weighted_coming ["works"] (spF K 1 BH))(D_pair_sum_of:DefAt K mg "pair_sum_of" Be f_pair_sum_of d_pair_sum_of ["coming","lengths","weights"])(G_pair_sum_of:FnOk P w K mg base CX0 1 f_pair_sum_of d_pair_sum_of ["coming","lengths","weights"] (spF K 3 DH))(B:BltA mg):FnOk P w K mg base CX0 4 f_pair_sum d_pair_sum ["works"] (spF K 1 Cu):=by
  refine Af (N:=["works","coming"]) (m:=JI) DA sc_pair_sum λ cdv A outer s H E hr=>?_
  exact⟨_,(A8 K (AS K (i:=1) sc_pair_sum.nd rfl (by first|exact Or.inl rfl|exact Or.inr rfl) (AJ K 0 G_weighted_coming hr D_weighted_coming (A3 K (qv K 0) (A7 K)) AI))
    (AF K (AW K (FN K G_pair_sum_of hr D_pair_sum_of (A3 K (qv K 1) (A3 K (B7 K (BB K (loc:=["work"]) (fr:=[]) (ix:=[]) rfl ⟨rfl,by decide +kernel,rfl,rfl,rfl,by decide +kernel⟩ (Bm K (qv K 0)) (λ _ _ _=>(AD K (i:=0) (show(["work"]:List Str).Nodup from by decide +kernel) rfl (by first|exact Or.inl rfl|exact Or.inr rfl))) (λ _ _ _=>(At K)) (λ _ _ _=>(AQ K (qv K 0) (AA K))))) (A3 K (B7 K (BB K (loc:=["work"]) (fr:=[]) (ix:=[]) rfl ⟨rfl,by decide +kernel,rfl,rfl,rfl,by decide +kernel⟩ (Bm K (qv K 0)) (λ _ _ _=>(AD K (i:=0) (show(["work"]:List Str).Nodup from by decide +kernel) rfl (by first|exact Or.inl rfl|exact Or.inr rfl))) (λ _ _ _=>(At K)) (λ _ _ _=>(AJ K 0 G_weight_of hr D_weight_of (A3 K (qv K 0) (A7 K)) AI)))) (A7 K)))) AI))))⟩
theorem ok_run{Gf:Addr}{d_run:FuncData}(DA:DefAt K mg "run" FZ Gf d_run ["works","order"]) (B:BltA mg):FnOk P w K mg base CX0 1 Gf d_run ["works","order"] (spF K 2 F_run):=by
  refine Af (N:=["works","order","pieces","end","work","length","coming","cost","begin"]) (m:=m_run) DA sc_run λ cdv A outer s H E hr=>?_
  exact⟨_,(A8 K (AS K (i:=2) sc_run.nd rfl (by first|exact Or.inl rfl|exact Or.inr rfl) (B7 K (DD K (A7 K))))
    (A8 K (AS K (i:=3) sc_run.nd rfl (by first|exact Or.inl rfl|exact Or.inr rfl) (AA K))
    (A8 K (DC K rfl (Bm K (qv K 1)) (AD K (i:=4) sc_run.nd rfl (by first|exact Or.inl rfl|exact Or.inr rfl))
      (A8 K (J7 K (AQ K (qv K 0) (qv K 4)) (Bn K (n:=3) rfl (AN K (AD K (i:=5) sc_run.nd rfl (by first|exact Or.inl rfl|exact Or.inr rfl)) (AN K (AD K (i:=6) sc_run.nd rfl (by first|exact Or.inl rfl|exact Or.inr rfl)) (AN K (AD K (i:=7) sc_run.nd rfl (by first|exact Or.inl rfl|exact Or.inr rfl)) (BJ K))))))
    (A8 K (AS K (i:=8) sc_run.nd rfl (by first|exact Or.inl rfl|exact Or.inr rfl) (CL K (Pv rfl) TY B.max L2.bt_max (A3 K (qv K 6) (A3 K (qv K 3) (A7 K)))))
    (A8 K (AS K (i:=3) sc_run.nd rfl (by first|exact Or.inl rfl|exact Or.inr rfl) (AX K ((BX).or (B4 K)) (Ae BW BD) (qv K 8) (qv K 5)))
    (AF K (De K (GP K PySem.F.slot_list_append PySem.F.type_list_append Dw ET (qv K 2) (A3 K (Bw K (A3 K (qv K 4) (A3 K (qv K 8) (A3 K (qv K 3) (A7 K))))) (A7 K)))))))))
    (AF K (AW K (JB K (BO K) (DK CG) B.tuple L2.bt_tuple (A3 K (qv K 2) (A7 K))))))))⟩
theorem ok_ends_of{f_ends_of:Addr}{d_ends_of:FuncData}(DA:DefAt K mg "ends_of" Ch f_ends_of d_ends_of ["works","plan"]) (B:BltA mg):FnOk P w K mg base CX0 1 f_ends_of d_ends_of ["works","plan"] (spF K 2 F_ends_of):=by
  refine Af (N:=["works","plan","ends","work","begin","end"]) (m:=m_ends_of) DA sc_ends_of λ cdv A outer s H E hr=>?_
  exact⟨_,(A8 K (by first|exact Mz K (i:=2) (loc:=["work"]) (fr:=[]) (ix:=[]) sc_ends_of.nd rfl rfl rfl ⟨rfl,by decide +kernel,rfl,rfl,rfl,by decide +kernel⟩ (Bm K (qv K 0)) (λ _ _ _=>(AD K (i:=0) (show(["work"]:List Str).Nodup from by decide +kernel) rfl (by first|exact Or.inl rfl|exact Or.inr rfl))) (λ _ _ _=>(At K)) (λ _ _ _=>(AA K))|exact AS K (i:=2) sc_ends_of.nd rfl (by first|exact Or.inl rfl|exact Or.inr rfl) (B7 K (BB K (loc:=["work"]) (fr:=[]) (ix:=[]) rfl ⟨rfl,by decide +kernel,rfl,rfl,rfl,by decide +kernel⟩ (Bm K (qv K 0)) (λ _ _ _=>(AD K (i:=0) (show(["work"]:List Str).Nodup from by decide +kernel) rfl (by first|exact Or.inl rfl|exact Or.inr rfl))) (λ _ _ _=>(At K)) (λ _ _ _=>(AA K)))))
    (A8 K (DC K rfl (Bm K (qv K 1)) (Bn K (n:=3) rfl (AN K (AD K (i:=3) sc_ends_of.nd rfl (by first|exact Or.inl rfl|exact Or.inr rfl)) (AN K (AD K (i:=4) sc_ends_of.nd rfl (by first|exact Or.inl rfl|exact Or.inr rfl)) (AN K (AD K (i:=5) sc_ends_of.nd rfl (by first|exact Or.inl rfl|exact Or.inr rfl)) (BJ K)))))
      (AF K (Ft K (qv K 2) (qv K 3) (qv K 5))))
    (AF K (AW K (JB K (BO K) (DK CG) B.tuple L2.bt_tuple (A3 K (qv K 2) (A7 K)))))))⟩
theorem ok_costs_of{f_costs_of f_cost_at:Addr}{d_costs_of d_cost_at:FuncData}(DA:DefAt K mg "costs_of" CT f_costs_of d_costs_of ["works","ends"])(D_cost_at:DefAt K mg "cost_at" Ci f_cost_at d_cost_at ["cost","t"])(G_cost_at:FnOk P w K mg base CX0 2 f_cost_at d_cost_at ["cost","t"] (spF K 2 F_cost_at))(B:BltA mg):FnOk P w K mg base CX0 3 f_costs_of d_costs_of ["works","ends"] (spF K 2 F_costs_of):=by
  refine Af (N:=["works","ends"]) (m:=m_costs_of) DA Me λ cdv A outer s H E hr=>?_
  exact⟨_,(AF K (AW K (Ht K (BO K) CG B.tuple L2.bt_tuple (BB K (loc:=["work","end"]) (fr:=[]) (ix:=[]) rfl ⟨rfl,by decide +kernel,rfl,rfl,rfl,by decide +kernel⟩ (Ou K B.zip (Lh K (qv K 0)) (Lh K (qv K 1))) (λ _ _ _=>(Bn K (n:=2) rfl (AN K (AD K (i:=0) (show(["work","end"]:List Str).Nodup from by decide +kernel) rfl (by first|exact Or.inl rfl|exact Or.inr rfl)) (AN K (AD K (i:=1) (show(["work","end"]:List Str).Nodup from by decide +kernel) rfl (by first|exact Or.inl rfl|exact Or.inr rfl)) (BJ K))))) (λ _ _ _=>(At K)) (λ _ _ _=>(AJ K 0 G_cost_at hr D_cost_at (A3 K (AQ K (qv K 0) (AA K)) (A3 K (qv K 1) (A7 K))) AI))))))⟩
theorem ok_worth{EG f_costs_of:Addr}{d_worth d_costs_of:FuncData}(DA:DefAt K mg "worth" Dt EG d_worth ["works","ends","question"])(D_costs_of:DefAt K mg "costs_of" CT f_costs_of d_costs_of ["works","ends"])(G_costs_of:FnOk P w K mg base CX0 3 f_costs_of d_costs_of ["works","ends"] (spF K 2 F_costs_of))(B:BltA mg):FnOk P w K mg base CX0 4 EG d_worth ["works","ends","question"] (spF K 3 F_worth):=by
  refine Af (N:=["works","ends","question","costs"]) (m:=m_worth) DA sc_worth λ cdv A outer s H E hr=>?_
  exact⟨_,(A8 K (AS K (i:=3) sc_worth.nd rfl (by first|exact Or.inl rfl|exact Or.inr rfl) (AJ K 0 G_costs_of hr D_costs_of (A3 K (qv K 0) (A3 K (qv K 1) (A7 K))) AI))
    (A8 K (C5 K (BK K ((Fb).or (Dv K hr.units)) (Ae EV EW) (qv K 2) (E4 K))
      (AF K (AW K (CL K ((Pu K rfl).or (OI K rfl)) (DK VI) B.max L2.bt_max (A3 K (qv K 3) (A7 K)))))
      (BE K))
    (AF K (AW K (CL K ((Ee K rfl).or (EB K rfl)) (DK HE) B.sum L2.bt_sum (A3 K (qv K 3) (A7 K)))))))⟩
theorem ok_is_forest{f_is_forest:Addr}{d_is_forest:FuncData}(DA:DefAt K mg "is_forest" CA f_is_forest d_is_forest ["many","wishes"]) (B:BltA mg):FnOk P w K mg base CX0 1 f_is_forest d_is_forest ["many","wishes"] (spF K 2 Dp):=by
  refine Af (N:=["many","wishes"]) (m:=IH) DA LO λ cdv A outer s H E hr=>?_
  exact⟨_,(AF K (AW K (JC K ((Fb).or (Dv K hr.units)) (Ae EV EW) (RU K (loc:=["a","b"]) (fr:=[]) (ix:=[]) B.len rfl ⟨rfl,by decide +kernel,rfl,rfl,rfl,by decide +kernel⟩ (Bm K (qv K 1)) (λ _ _ _=>(Bn K (n:=2) rfl (AN K (AD K (i:=0) (show(["a","b"]:List Str).Nodup from by decide +kernel) rfl (by first|exact Or.inl rfl|exact Or.inr rfl)) (AN K (AD K (i:=1) (show(["a","b"]:List Str).Nodup from by decide +kernel) rfl (by first|exact Or.inl rfl|exact Or.inr rfl)) (BJ K))))) (λ _ _ _=>(At K)) (λ _ _ _=>(qv K 1))) (CL K (Bg K) (DK Cz) B.len L2.bt_len (A3 K (qv K 1) (A7 K))))))⟩
theorem ok_refuse_no_forest{f_refuse_no_forest f_weighted_coming f_is_forest:Addr}{d_refuse_no_forest d_weighted_coming d_is_forest:FuncData}(DA:DefAt K mg "refuse_no_forest" B1 f_refuse_no_forest d_refuse_no_forest ["works","wishes"])(D_weighted_coming:DefAt K mg "weighted_coming" Ax f_weighted_coming d_weighted_coming ["works"])(G_weighted_coming:FnOk P w K mg base CX0 3 f_weighted_coming d_weighted_coming ["works"] (spF K 1 BH))(D_is_forest:DefAt K mg "is_forest" CA f_is_forest d_is_forest ["many","wishes"])(G_is_forest:FnOk P w K mg base CX0 1 f_is_forest d_is_forest ["many","wishes"] (spF K 2 Dp))(B:BltA mg):FnOk P w K mg base CX0 4 f_refuse_no_forest d_refuse_no_forest ["works","wishes"] (spF K 2 Bx):=by
  refine Af (N:=["works","wishes"]) (m:=EY) DA Gq λ cdv A outer s H E hr=>?_
  exact⟨_,(A8 K (De K (AJ K 0 G_weighted_coming hr D_weighted_coming (A3 K (qv K 0) (A7 K)) AI))
    (AF K (C5 K (Os K (FM K (AJ K 0 G_is_forest hr D_is_forest (A3 K (CL K (Bg K) (DK Cz) B.len L2.bt_len (A3 K (qv K 0) (A7 K))) (A3 K (qv K 1) (A7 K))) AI)))
      (AF K (IU K))
      (BE K))))⟩
theorem ok_joined{f_joined f_refuse_no_forest f_line_of:Addr}{d_joined d_refuse_no_forest d_line_of:FuncData}(DA:DefAt K mg "joined" DU f_joined d_joined ["works","wishes"])(D_refuse_no_forest:DefAt K mg "refuse_no_forest" B1 f_refuse_no_forest d_refuse_no_forest ["works","wishes"])(G_refuse_no_forest:FnOk P w K mg base CX0 4 f_refuse_no_forest d_refuse_no_forest ["works","wishes"] (spF K 2 Bx))(D_line_of:DefAt K mg "line_of" C8 f_line_of d_line_of ["works","wishes","some"])(G_line_of:FnOk P w K mg base CX0 22 f_line_of d_line_of ["works","wishes","some"] (spF K 3 Eg))(B:BltA mg):FnOk P w K mg base CX0 23 f_joined d_joined ["works","wishes"] (spF K 2 FX):=by
  refine Af (N:=["works","wishes","seconds"]) (m:=Lv) DA sc_joined λ cdv A outer s H E hr=>?_
  exact⟨_,(A8 K (De K (AJ K 0 G_refuse_no_forest hr D_refuse_no_forest (A3 K (qv K 0) (A3 K (qv K 1) (A7 K))) AI))
    (A8 K (by first|exact Mz K (i:=2) (loc:=["a","b"]) (fr:=[]) (ix:=[]) sc_joined.nd rfl rfl rfl ⟨rfl,by decide +kernel,rfl,rfl,rfl,by decide +kernel⟩ (Bm K (qv K 1)) (λ _ _ _=>(Bn K (n:=2) rfl (AN K (AD K (i:=0) (show(["a","b"]:List Str).Nodup from by decide +kernel) rfl (by first|exact Or.inl rfl|exact Or.inr rfl)) (AN K (AD K (i:=1) (show(["a","b"]:List Str).Nodup from by decide +kernel) rfl (by first|exact Or.inl rfl|exact Or.inr rfl)) (BJ K))))) (λ _ _ _=>(At K)) (λ _ _ _=>(qv K 1))|exact AS K (i:=2) sc_joined.nd rfl (by first|exact Or.inl rfl|exact Or.inr rfl) (B7 K (BB K (loc:=["a","b"]) (fr:=[]) (ix:=[]) rfl ⟨rfl,by decide +kernel,rfl,rfl,rfl,by decide +kernel⟩ (Bm K (qv K 1)) (λ _ _ _=>(Bn K (n:=2) rfl (AN K (AD K (i:=0) (show(["a","b"]:List Str).Nodup from by decide +kernel) rfl (by first|exact Or.inl rfl|exact Or.inr rfl)) (AN K (AD K (i:=1) (show(["a","b"]:List Str).Nodup from by decide +kernel) rfl (by first|exact Or.inl rfl|exact Or.inr rfl)) (BJ K))))) (λ _ _ _=>(At K)) (λ _ _ _=>(qv K 1)))))
    (AF K (AW K (FN K G_line_of hr D_line_of (A3 K (qv K 0) (A3 K (qv K 1) (A3 K (B7 K (BB K (loc:=["a"]) (fr:=["seconds"]) (ix:=[2]) rfl ⟨rfl,by decide +kernel,rfl,rfl,rfl,by decide +kernel⟩ (Ce K B.range (A3 K (CL K (Bg K) (DK Cz) B.len L2.bt_len (A3 K (qv K 0) (A7 K))) (A7 K))) (λ _ _ _=>(AD K (i:=0) (show(["a","seconds"]:List Str).Nodup from by decide +kernel) rfl (by first|exact Or.inl rfl|exact Or.inr rfl))) (λ _ _ _=>(Lj K (BK K (P8 K) XJ (qv K 0) (qv K 1)))) (λ _ _ _=>(qv K 0)))) (A7 K)))) (Gm 18))))))⟩
theorem ok_prices_of{f_prices_of f_minus f_ratio_of f_row_of:Addr}{d_prices_of d_minus d_ratio_of d_row_of:FuncData}(DA:DefAt K mg "prices_of" C7 f_prices_of d_prices_of ["works","wishes","a"])(D_minus:DefAt K mg "minus" Du f_minus d_minus ["one","other"])(G_minus:FnOk P w K mg base CX0 3 f_minus d_minus ["one","other"] (spF K 2 GG))(D_ratio_of:DefAt K mg "ratio_of" BV f_ratio_of d_ratio_of ["works","some"])(G_ratio_of:FnOk P w K mg base CX0 3 f_ratio_of d_ratio_of ["works","some"] (spF K 2 BR))(D_row_of:DefAt K mg "row_of" CY f_row_of d_row_of ["works","wishes","a"])(G_row_of:FnOk P w K mg base CX0 22 f_row_of d_row_of ["works","wishes","a"] (spF K 3 FW))(B:BltA mg):FnOk P w K mg base CX0 23 f_prices_of d_prices_of ["works","wishes","a"] (spF K 3 Dn):=by
  refine Af (N:=["works","wishes","a","block","taken","left","ratios","entries","some","k","one"]) (m:=IE) DA sc_prices_of λ cdv A outer s H E hr=>?_
  exact⟨_,(A8 K (J7 K (EE K G_row_of hr D_row_of (A3 K (qv K 0) (A3 K (qv K 1) (A3 K (qv K 2) (A7 K)))) (HI 18)) (Bn K (n:=3) rfl (AN K (AD K (i:=3) sc_prices_of.nd rfl (by first|exact Or.inl rfl|exact Or.inr rfl)) (AN K (AD K (i:=4) sc_prices_of.nd rfl (by first|exact Or.inl rfl|exact Or.inr rfl)) (AN K (AD K (i:=5) sc_prices_of.nd rfl (by first|exact Or.inl rfl|exact Or.inr rfl)) (BJ K))))))
    (A8 K (AS K (i:=6) sc_prices_of.nd rfl (by first|exact Or.inl rfl|exact Or.inr rfl) (B7 K (Ot K (B7 K (BB K (loc:=["one"]) (fr:=["works"]) (ix:=[0]) rfl ⟨rfl,by decide +kernel,rfl,rfl,rfl,by decide +kernel⟩ (Df K (qv K 4)) (λ _ _ _=>(AD K (i:=0) (show(["one","works"]:List Str).Nodup from by decide +kernel) rfl (by first|exact Or.inl rfl|exact Or.inr rfl))) (λ _ _ _=>(At K)) (λ _ _ _=>(AJ K 0 G_ratio_of hr D_ratio_of (A3 K (qv K 1) (A3 K (qv K 0) (A7 K))) AI)))) (B7 K (DD K (A3 K (AJ K 0 G_ratio_of hr D_ratio_of (A3 K (qv K 0) (A3 K (qv K 3) (A7 K))) AI) (A7 K)))))))
    (A8 K (AS K (i:=7) sc_prices_of.nd rfl (by first|exact Or.inl rfl|exact Or.inr rfl) (B7 K (DD K (A7 K))))
    (A8 K (AS K (i:=8) sc_prices_of.nd rfl (by first|exact Or.inl rfl|exact Or.inr rfl) (Bw K (A7 K)))
    (A8 K (DC K rfl (N0 K B.enumerate (Fu K (qv K 4))) (Bn K (n:=2) rfl (AN K (AD K (i:=9) sc_prices_of.nd rfl (by first|exact Or.inl rfl|exact Or.inr rfl)) (AN K (AD K (i:=10) sc_prices_of.nd rfl (by first|exact Or.inl rfl|exact Or.inr rfl)) (BJ K))))
      (A8 K (AS K (i:=8) sc_prices_of.nd rfl (by first|exact Or.inl rfl|exact Or.inr rfl) (Ht K (BO K) CG B.tuple L2.bt_tuple (No K B.sorted (Lh K (AX K (((BX).or (B4 K)).or (UC K)) (Ae (Ae BW BD) Tf) (qv K 8) (qv K 10))))))
    (AF K (De K (GP K PySem.F.slot_list_append PySem.F.type_list_append Dw ET (qv K 7) (A3 K (Bw K (A3 K (qv K 2) (A3 K (qv K 8) (A3 K (AJ K 0 G_minus hr D_minus (A3 K (AQ K (qv K 6) (qv K 9)) (A3 K (AQ K (qv K 6) (AX K ((BX).or (B4 K)) (Ae BW BD) (qv K 9) (AA K))) (A7 K))) AI) (A7 K))))) (A7 K)))))))
    (AF K (AW K (qv K 7))))))))⟩
theorem ok_forest_order{f_forest_order f_joined f_prices_of:Addr}{d_forest_order d_joined d_prices_of:FuncData}(DA:DefAt K mg "forest_order" BU f_forest_order d_forest_order ["works","wishes"])(D_joined:DefAt K mg "joined" DU f_joined d_joined ["works","wishes"])(G_joined:FnOk P w K mg base CX0 23 f_joined d_joined ["works","wishes"] (spF K 2 FX))(D_prices_of:DefAt K mg "prices_of" C7 f_prices_of d_prices_of ["works","wishes","a"])(G_prices_of:FnOk P w K mg base CX0 23 f_prices_of d_prices_of ["works","wishes","a"] (spF K 3 Dn))(B:BltA mg):FnOk P w K mg base CX0 24 f_forest_order d_forest_order ["works","wishes"] (spF K 2 CD):=by
  refine Af (N:=["works","wishes","order","prices"]) (m:=Fx) DA sc_forest_order λ cdv A outer s H E hr=>?_
  exact⟨_,(A8 K (by first|exact IT K (i:=2) (loc:=["block","j"]) (fr:=[]) (ix:=[]) sc_forest_order.nd rfl rfl rfl ⟨rfl,by decide +kernel,rfl,rfl,rfl,by decide +kernel⟩ (J9 K (EE K G_joined hr D_joined (A3 K (qv K 0) (A3 K (qv K 1) (A7 K))) AI)) (λ _ _ _=>(AD K (i:=0) (show(["block","j"]:List Str).Nodup from by decide +kernel) rfl (by first|exact Or.inl rfl|exact Or.inr rfl))) (λ _ _ _=>(At K)) (λ _ _ _=>(Bm K (qv K 0))) (λ _ _ _=>(AD K (i:=1) (show(["block","j"]:List Str).Nodup from by decide +kernel) rfl (by first|exact Or.inl rfl|exact Or.inr rfl))) (λ _ _ _=>(At K)) (λ _ _ _=>(qv K 1))|exact AS K (i:=2) sc_forest_order.nd rfl (by first|exact Or.inl rfl|exact Or.inr rfl) (GR K (loc:=["block","j"]) (fr:=[]) (ix:=[]) rfl ⟨rfl,by decide +kernel,rfl,rfl,rfl,by decide +kernel⟩ (J9 K (EE K G_joined hr D_joined (A3 K (qv K 0) (A3 K (qv K 1) (A7 K))) AI)) (λ _ _ _=>(AD K (i:=0) (show(["block","j"]:List Str).Nodup from by decide +kernel) rfl (by first|exact Or.inl rfl|exact Or.inr rfl))) (λ _ _ _=>(At K)) (λ _ _ _=>(Bm K (qv K 0))) (λ _ _ _=>(AD K (i:=1) (show(["block","j"]:List Str).Nodup from by decide +kernel) rfl (by first|exact Or.inl rfl|exact Or.inr rfl))) (λ _ _ _=>(At K)) (λ _ _ _=>(qv K 1))))
    (A8 K (by first|exact IT K (i:=3) (loc:=["a","entry"]) (fr:=["works","wishes"]) (ix:=[0,1]) sc_forest_order.nd rfl rfl rfl ⟨rfl,by decide +kernel,rfl,rfl,rfl,by decide +kernel⟩ (Ce K B.range (A3 K (CL K (Bg K) (DK Cz) B.len L2.bt_len (A3 K (qv K 0) (A7 K))) (A7 K))) (λ _ _ _=>(AD K (i:=0) (show(["a","entry","works","wishes"]:List Str).Nodup from by decide +kernel) rfl (by first|exact Or.inl rfl|exact Or.inr rfl))) (λ _ _ _=>(At K)) (λ _ _ _=>(J9 K (EE K G_prices_of hr D_prices_of (A3 K (qv K 2) (A3 K (qv K 3) (A3 K (qv K 0) (A7 K)))) AI))) (λ _ _ _=>(AD K (i:=1) (show(["a","entry","works","wishes"]:List Str).Nodup from by decide +kernel) rfl (by first|exact Or.inl rfl|exact Or.inr rfl))) (λ _ _ _=>(At K)) (λ _ _ _=>(qv K 1))|exact AS K (i:=3) sc_forest_order.nd rfl (by first|exact Or.inl rfl|exact Or.inr rfl) (GR K (loc:=["a","entry"]) (fr:=["works","wishes"]) (ix:=[0,1]) rfl ⟨rfl,by decide +kernel,rfl,rfl,rfl,by decide +kernel⟩ (Ce K B.range (A3 K (CL K (Bg K) (DK Cz) B.len L2.bt_len (A3 K (qv K 0) (A7 K))) (A7 K))) (λ _ _ _=>(AD K (i:=0) (show(["a","entry","works","wishes"]:List Str).Nodup from by decide +kernel) rfl (by first|exact Or.inl rfl|exact Or.inr rfl))) (λ _ _ _=>(At K)) (λ _ _ _=>(J9 K (EE K G_prices_of hr D_prices_of (A3 K (qv K 2) (A3 K (qv K 3) (A3 K (qv K 0) (A7 K)))) AI))) (λ _ _ _=>(AD K (i:=1) (show(["a","entry","works","wishes"]:List Str).Nodup from by decide +kernel) rfl (by first|exact Or.inl rfl|exact Or.inr rfl))) (λ _ _ _=>(At K)) (λ _ _ _=>(qv K 1))))
    (AF K (AW K (Bw K (A3 K (JB K (BO K) (DK CG) B.tuple L2.bt_tuple (A3 K (qv K 2) (A7 K))) (A3 K (JB K (BO K) (DK CG) B.tuple L2.bt_tuple (A3 K (qv K 3) (A7 K))) (A7 K))))))))⟩
theorem ok_tape{f_tape:Addr}{d_tape:FuncData}(DA:DefAt K mg "_law_tape" ER f_tape d_tape ["_law_script"]) (B:BltA mg):FnOk P w K mg base CX0 1 f_tape d_tape ["_law_script"] (spF K 1 Hk):=by
  refine Af (N:=["_law_script"]) (m:=PK) DA T7 λ cdv A outer s H E hr=>?_
  exact⟨_,(AF K (AW K (B7 K (DD K (A3 K (B7 K (RQ K B.list (Li K (qv K 0) (Jn K) (Jm K (AA K))))) (A3 K (AA K) (A3 K (AA K) (A3 K (AA K) (A7 K)))))))))⟩
theorem ok_pick{f_pick:Addr}{d_pick:FuncData}(DA:DefAt K mg "_law_pick" E2 f_pick d_pick ["_law_tape_here","_law_many"]) (B:BltA mg):FnOk P w K mg base CX0 1 f_pick d_pick ["_law_tape_here","_law_many"] (spF K 2 By):=by
  refine Af (N:=["_law_tape_here","_law_many","_law_found","_law_at","_law_cell","_law_mixed"]) (m:=PL) DA sc_pick λ cdv A outer s H E hr=>?_
  exact⟨_,(A8 K (Ft K (qv K 0) (AA K) (AX K ((BX).or (B4 K)) (Ae BW BD) (AQ K (qv K 0) (AA K)) (AA K)))
    (A8 K (C5 K (BK K Nu Nj (AQ K (qv K 0) (AA K)) (AA K))
      (A8 K (AS K (i:=2) sc_pick.nd rfl (by first|exact Or.inl rfl|exact Or.inr rfl) (AX K E7 E3 (AQ K (qv K 0) (AA K)) (qv K 1)))
    (A8 K (Ft K (qv K 0) (AA K) (AX K Jq Jk (AQ K (qv K 0) (AA K)) (qv K 1)))
    (AF K (AW K (qv K 2)))))
      (BE K))
    (A8 K (AS K (i:=3) sc_pick.nd rfl (by first|exact Or.inl rfl|exact Or.inr rfl) (AQ K (qv K 0) (AA K)))
    (A8 K (Ft K (qv K 0) (AA K) (AX K ((BX).or (B4 K)) (Ae BW BD) (qv K 3) (AA K)))
    (A8 K (AS K (i:=4) sc_pick.nd rfl (by first|exact Or.inl rfl|exact Or.inr rfl) (RV K (Ti K (W0 K hr.units) (AQ K (qv K 0) (AA K)) (DD K (A7 K))) (AQ K (AQ K (qv K 0) (AA K)) (AX K E7 E3 (qv K 3) (CL K (Bg K) (DK Cz) B.len L2.bt_len (A3 K (AQ K (qv K 0) (AA K)) (A7 K))))) (AA K)))
    (A8 K (C5 K (QW.toT (Oq K (BK K XW XL (qv K 4) (AX K Vz VS (AA K) (AA K))) (My K (BK K Hu Hr (qv K 3) (CL K (Bg K) (DK Cz) B.len L2.bt_len (A3 K (AQ K (qv K 0) (AA K)) (A7 K)))))))
      (A8 K (Ft K (qv K 0) (AA K) (AX K Jq Jk (qv K 4) (qv K 1)))
    (AF K (AW K (AX K E7 E3 (qv K 4) (qv K 1)))))
      (BE K))
    (A8 K (AS K (i:=5) sc_pick.nd rfl (by first|exact Or.inl rfl|exact Or.inr rfl) (AX K E7 E3 (AX K ((BX).or (B4 K)) (Ae BW BD) (AX K ((BX).or (B4 K)) (Ae BW BD) (AX K E7 E3 (qv K 4) (AA K)) (AX K C3 C2 (AA K) (AQ K (qv K 0) (AA K)))) (AA K)) (AA K)))
    (A8 K (AS K (i:=5) sc_pick.nd rfl (by first|exact Or.inl rfl|exact Or.inr rfl) (AX K E7 E3 (AX K ((BX).or (B4 K)) (Ae BW BD) (AX K ((BX).or (B4 K)) (Ae BW BD) (AX K C3 C2 (qv K 5) (qv K 5)) (AX K C3 C2 (AA K) (AQ K (qv K 0) (AA K)))) (AA K)) (AA K)))
    (A8 K (AS K (i:=5) sc_pick.nd rfl (by first|exact Or.inl rfl|exact Or.inr rfl) (AX K E7 E3 (AX K ((BX).or (B4 K)) (Ae BW BD) (AX K ((BX).or (B4 K)) (Ae BW BD) (AX K C3 C2 (qv K 5) (qv K 5)) (AX K C3 C2 (AA K) (qv K 5))) (AA K)) (AA K)))
    (AF K (AW K (AX K E7 E3 (AX K Jq Jk (qv K 5) (AA K)) (qv K 1)))))))))))))⟩
theorem ok_row{f_row f_pick:Addr}{d_row d_pick:FuncData}(DA:DefAt K mg "_law_row" Fa f_row d_row ["_law_tape_here","_law_many"])(D_pick:DefAt K mg "_law_pick" E2 f_pick d_pick ["_law_tape_here","_law_many"])(G_pick:FnOk P w K mg base CX0 1 f_pick d_pick ["_law_tape_here","_law_many"] (spF K 2 By))(B:BltA mg):FnOk P w K mg base CX0 2 f_row d_row ["_law_tape_here","_law_many"] (spF K 2 IC):=by
  refine Af (N:=["_law_tape_here","_law_many","_law_left","_law_row_here","_law_turn"]) (m:=Sa) DA sc_row λ cdv A outer s H E hr=>?_
  exact⟨_,(A8 K (HJ K (i:=2) (j:=3) rfl sc_row.nd rfl rfl (by decide) rfl rfl (A3 K (B7 K (RP K B.list B.range (A3 K (qv K 1) (A7 K)))) (A3 K (B7 K (DD K (A7 K))) (A7 K))))
    (A8 K (DC K rfl (Ce K B.range (A3 K (qv K 1) (A7 K))) (AD K (i:=4) sc_row.nd rfl (by first|exact Or.inl rfl|exact Or.inr rfl))
      (AF K (De K (GP K PySem.F.slot_list_append PySem.F.type_list_append Dw ET (qv K 3) (A3 K (GP K PySem.F.slot_list_pop PySem.F.type_list_pop Rm Qs (qv K 2) (A3 K (AJ K 2 G_pick hr D_pick (A3 K (qv K 0) (A3 K (CL K (Bg K) (DK Cz) B.len L2.bt_len (A3 K (qv K 2) (A7 K))) (A7 K))) AI) (A7 K))) (A7 K))))))
    (AF K (AW K (JB K (BO K) (DK CG) B.tuple L2.bt_tuple (A3 K (qv K 3) (A7 K)))))))⟩
theorem ok_cost{f_cost:Addr}{d_cost:FuncData}(DA:DefAt K mg "_law_cost" ES f_cost d_cost ["_law_works","_law_order"]) (B:BltA mg):FnOk P w K mg base CX0 1 f_cost d_cost ["_law_works","_law_order"] (spF K 2 GH):=by
  refine Af (N:=["_law_works","_law_order","_law_end","_law_found","_law_j"]) (m:=PP) DA sc_cost λ cdv A outer s H E hr=>?_
  exact⟨_,(A8 K (J7 K (Bw K (A3 K (AA K) (A3 K (AA K) (A7 K)))) (Bn K (n:=2) rfl (AN K (AD K (i:=2) sc_cost.nd rfl (by first|exact Or.inl rfl|exact Or.inr rfl)) (AN K (AD K (i:=3) sc_cost.nd rfl (by first|exact Or.inl rfl|exact Or.inr rfl)) (BJ K)))))
    (A8 K (DC K rfl (Bm K (qv K 1)) (AD K (i:=4) sc_cost.nd rfl (by first|exact Or.inl rfl|exact Or.inr rfl))
      (A8 K (AS K (i:=2) sc_cost.nd rfl (by first|exact Or.inl rfl|exact Or.inr rfl) (AX K ((BX).or (B4 K)) (Ae BW BD) (qv K 2) (AQ K (AQ K (qv K 0) (qv K 4)) (AA K))))
    (AF K (AS K (i:=3) sc_cost.nd rfl (by first|exact Or.inl rfl|exact Or.inr rfl) (AX K ((BX).or (B4 K)) (Ae BW BD) (qv K 3) (AX K C3 C2 (AQ K (AQ K (AQ K (qv K 0) (qv K 4)) (AA K)) (AA K)) (qv K 2)))))))
    (AF K (AW K (qv K 3)))))⟩
theorem ok_lworth{f_lworth Gf f_ends_of EG:Addr}{d_lworth d_run d_ends_of d_worth:FuncData}(DA:DefAt K mg "_law_worth" DS f_lworth d_lworth ["_law_works","_law_order"])(D_run:DefAt K mg "run" FZ Gf d_run ["works","order"])(G_run:FnOk P w K mg base CX0 1 Gf d_run ["works","order"] (spF K 2 F_run))(D_ends_of:DefAt K mg "ends_of" Ch f_ends_of d_ends_of ["works","plan"])(G_ends_of:FnOk P w K mg base CX0 1 f_ends_of d_ends_of ["works","plan"] (spF K 2 F_ends_of))(D_worth:DefAt K mg "worth" Dt EG d_worth ["works","ends","question"])(G_worth:FnOk P w K mg base CX0 4 EG d_worth ["works","ends","question"] (spF K 3 F_worth))(B:BltA mg):FnOk P w K mg base CX0 5 f_lworth d_lworth ["_law_works","_law_order"] (spF K 2 EK):=by
  refine Af (N:=["_law_works","_law_order"]) (m:=Lu) DA Of λ cdv A outer s H E hr=>?_
  exact⟨_,(AF K (AW K (AJ K 0 G_worth hr D_worth (A3 K (qv K 0) (A3 K (AJ K 0 G_ends_of hr D_ends_of (A3 K (qv K 0) (A3 K (AJ K 0 G_run hr D_run (A3 K (qv K 0) (A3 K (qv K 1) (A7 K))) AI) (A7 K))) AI) (A3 K (E4 K) (A7 K)))) AI)))⟩
theorem ok_law{f_law f_pair_sum f_forest_order f_tape f_pick f_row f_cost f_lworth:Addr}{d_law d_pair_sum d_forest_order d_tape d_pick d_row d_cost d_lworth:FuncData}(DA:DefAt K mg "law" EM f_law d_law ["_law_script"])(D_pair_sum:DefAt K mg "pair_sum" CS f_pair_sum d_pair_sum ["works"])(G_pair_sum:FnOk P w K mg base CX0 4 f_pair_sum d_pair_sum ["works"] (spF K 1 Cu))(D_forest_order:DefAt K mg "forest_order" BU f_forest_order d_forest_order ["works","wishes"])(G_forest_order:FnOk P w K mg base CX0 24 f_forest_order d_forest_order ["works","wishes"] (spF K 2 CD))(D_tape:DefAt K mg "_law_tape" ER f_tape d_tape ["_law_script"])(G_tape:FnOk P w K mg base CX0 1 f_tape d_tape ["_law_script"] (spF K 1 Hk))(D_pick:DefAt K mg "_law_pick" E2 f_pick d_pick ["_law_tape_here","_law_many"])(G_pick:FnOk P w K mg base CX0 1 f_pick d_pick ["_law_tape_here","_law_many"] (spF K 2 By))(D_row:DefAt K mg "_law_row" Fa f_row d_row ["_law_tape_here","_law_many"])(G_row:FnOk P w K mg base CX0 2 f_row d_row ["_law_tape_here","_law_many"] (spF K 2 IC))(D_cost:DefAt K mg "_law_cost" ES f_cost d_cost ["_law_works","_law_order"])(G_cost:FnOk P w K mg base CX0 1 f_cost d_cost ["_law_works","_law_order"] (spF K 2 GH))(D_lworth:DefAt K mg "_law_worth" DS f_lworth d_lworth ["_law_works","_law_order"])(G_lworth:FnOk P w K mg base CX0 5 f_lworth d_lworth ["_law_works","_law_order"] (spF K 2 EK))(B:BltA mg):FnOk P w K mg base CX0 25 f_law d_law ["_law_script"] (spF K 1 F_law):=by
  refine Af (N:=["_law_script","_law_tape_here","_law_turn","_law_many","_law_top","_law_pairs","_law_j","_law_works","_law_other_works","_law_row_here","_law_some","_law_i","_law_wishes","_law_about","_law_order","_law_there","_law_least","_law_k"]) (m:=Sb) DA sc_law λ cdv A outer s H E hr=>?_
  exact⟨_,(A8 K (AS K (i:=1) sc_law.nd rfl (by first|exact Or.inl rfl|exact Or.inr rfl) (FN K G_tape hr D_tape (A3 K (qv K 0) (A7 K)) AI))
    (A8 K (DC K rfl (Ce K B.range (A3 K (AA K) (A7 K))) (AD K (i:=2) sc_law.nd rfl (by first|exact Or.inl rfl|exact Or.inr rfl))
      (KB K (A8 K (HJ K (i:=3) (j:=4) rfl sc_law.nd rfl rfl (by decide) rfl rfl (A3 K (AX K ((BX).or (B4 K)) (Ae BW BD) (AA K) (AJ K 2 G_pick hr D_pick (A3 K (qv K 1) (A3 K (AA K) (A7 K))) AI)) (A3 K (Vc K (DD K (A3 K (AA K) (A3 K (AA K) (A3 K (AA K) (A7 K))))) (AJ K 2 G_pick hr D_pick (A3 K (qv K 1) (A3 K (AA K) (A7 K))) AI)) (A7 K))))
    (A8 K (AS K (i:=5) sc_law.nd rfl (by first|exact Or.inl rfl|exact Or.inr rfl) (B7 K (DD K (A7 K))))
    (A8 K (DC K rfl (Ce K B.range (A3 K (qv K 3) (A7 K))) (AD K (i:=6) sc_law.nd rfl (by first|exact Or.inl rfl|exact Or.inr rfl))
      (AF K (De K (GP K PySem.F.slot_list_append PySem.F.type_list_append Dw ET (qv K 5) (A3 K (Bw K (A3 K (AX K ((BX).or (B4 K)) (Ae BW BD) (AA K) (AJ K 2 G_pick hr D_pick (A3 K (qv K 1) (A3 K (qv K 4) (A7 K))) AI)) (A3 K (AX K ((BX).or (B4 K)) (Ae BW BD) (AA K) (AJ K 2 G_pick hr D_pick (A3 K (qv K 1) (A3 K (qv K 4) (A7 K))) AI)) (A7 K)))) (A7 K))))))
    (A8 K (AS K (i:=7) sc_law.nd rfl (by first|exact Or.inl rfl|exact Or.inr rfl) (Ht K (BO K) CG B.tuple L2.bt_tuple (BB K (loc:=["_law_one","_law_other"]) (fr:=[]) (ix:=[]) rfl ⟨rfl,by decide +kernel,rfl,rfl,rfl,by decide +kernel⟩ (Df K (qv K 5)) (λ _ _ _=>(Bn K (n:=2) rfl (AN K (AD K (i:=0) (show(["_law_one","_law_other"]:List Str).Nodup from by decide +kernel) rfl (by first|exact Or.inl rfl|exact Or.inr rfl)) (AN K (AD K (i:=1) (show(["_law_one","_law_other"]:List Str).Nodup from by decide +kernel) rfl (by first|exact Or.inl rfl|exact Or.inr rfl)) (BJ K))))) (λ _ _ _=>(At K)) (λ _ _ _=>(Bw K (A3 K (qv K 0) (A3 K (AA K) (A3 K (Bw K (A3 K (E4 K) (A3 K (qv K 1) (A7 K)))) (A7 K)))))))))
    (A8 K (AS K (i:=8) sc_law.nd rfl (by first|exact Or.inl rfl|exact Or.inr rfl) (Ht K (BO K) CG B.tuple L2.bt_tuple (BB K (loc:=["_law_one","_law_other"]) (fr:=[]) (ix:=[]) rfl ⟨rfl,by decide +kernel,rfl,rfl,rfl,by decide +kernel⟩ (Df K (qv K 5)) (λ _ _ _=>(Bn K (n:=2) rfl (AN K (AD K (i:=0) (show(["_law_one","_law_other"]:List Str).Nodup from by decide +kernel) rfl (by first|exact Or.inl rfl|exact Or.inr rfl)) (AN K (AD K (i:=1) (show(["_law_one","_law_other"]:List Str).Nodup from by decide +kernel) rfl (by first|exact Or.inl rfl|exact Or.inr rfl)) (BJ K))))) (λ _ _ _=>(At K)) (λ _ _ _=>(Bw K (A3 K (qv K 1) (A3 K (AA K) (A3 K (Bw K (A3 K (E4 K) (A3 K (qv K 0) (A7 K)))) (A7 K)))))))))
    (A8 K (AS K (i:=9) sc_law.nd rfl (by first|exact Or.inl rfl|exact Or.inr rfl) (AJ K 2 G_row hr D_row (A3 K (qv K 1) (A3 K (qv K 3) (A7 K))) AI))
    (A8 K (AS K (i:=10) sc_law.nd rfl (by first|exact Or.inl rfl|exact Or.inr rfl) (B7 K (DD K (A7 K))))
    (A8 K (DC K rfl (Tl K B.range (A3 K (AA K) (A3 K (qv K 3) (A7 K)))) (AD K (i:=11) sc_law.nd rfl (by first|exact Or.inl rfl|exact Or.inr rfl))
      (AF K (C5 K (BK K Nu Nj (AJ K 2 G_pick hr D_pick (A3 K (qv K 1) (A3 K (AA K) (A7 K))) AI) (AA K))
      (AF K (De K (GP K PySem.F.slot_list_append PySem.F.type_list_append Dw ET (qv K 10) (A3 K (Bw K (A3 K (AQ K (qv K 9) (AX K Ll LY (qv K 11) (AA K))) (A3 K (AQ K (qv K 9) (qv K 11)) (A7 K)))) (A7 K)))))
      (BE K))))
    (A8 K (AS K (i:=12) sc_law.nd rfl (by first|exact Or.inl rfl|exact Or.inr rfl) (Ht K (BO K) CG B.tuple L2.bt_tuple (J8 K B.sorted (Fu K (qv K 10)))))
    (A8 K (AS K (i:=13) sc_law.nd rfl (by first|exact Or.inl rfl|exact Or.inr rfl) (Ht K (BO K) CG B.tuple L2.bt_tuple (J8 K B.sorted (Va K (BB K (loc:=["_law_a","_law_b"]) (fr:=[]) (ix:=[]) rfl ⟨rfl,by decide +kernel,rfl,rfl,rfl,by decide +kernel⟩ (Df K (qv K 10)) (λ _ _ _=>(Bn K (n:=2) rfl (AN K (AD K (i:=0) (show(["_law_a","_law_b"]:List Str).Nodup from by decide +kernel) rfl (by first|exact Or.inl rfl|exact Or.inr rfl)) (AN K (AD K (i:=1) (show(["_law_a","_law_b"]:List Str).Nodup from by decide +kernel) rfl (by first|exact Or.inl rfl|exact Or.inr rfl)) (BJ K))))) (λ _ _ _=>(At K)) (λ _ _ _=>(Bw K (A3 K (qv K 1) (A3 K (qv K 0) (A7 K))))))))))
    (A8 K (C5 K (BK K ((JF).or (FB K hr.units)) (Ae HG HH) (CL K Jc LV B.repr L2.bt_repr (A3 K (AJ K 0 G_pair_sum hr D_pair_sum (A3 K (qv K 7) (A7 K)) AI) (A7 K))) (CL K Jc LV B.repr L2.bt_repr (A3 K (AJ K 0 G_pair_sum hr D_pair_sum (A3 K (qv K 8) (A7 K)) AI) (A7 K))))
      (AF K (AW K (Ki K)))
      (BE K))
    (A8 K (HJ K (i:=14) (j:=15) rfl sc_law.nd rfl rfl (by decide) rfl rfl (A3 K (AQ K (AJ K 0 G_forest_order hr D_forest_order (A3 K (qv K 7) (A3 K (qv K 12) (A7 K))) AI) (AA K)) (A3 K (AQ K (AJ K 0 G_forest_order hr D_forest_order (A3 K (qv K 8) (A3 K (qv K 13) (A7 K))) AI) (AA K)) (A7 K))))
    (A8 K (AS K (i:=16) sc_law.nd rfl (by first|exact Or.inl rfl|exact Or.inr rfl) (AJ K 0 G_cost hr D_cost (A3 K (qv K 7) (A3 K (qv K 14) (A7 K))) AI))
    (A8 K (C5 K (QW.toT (XM K (BK K ((JF).or (FB K hr.units)) (Ae HG HH) (AJ K 0 G_cost hr D_cost (A3 K (qv K 8) (A3 K (qv K 15) (A7 K))) AI) (qv K 16)) (VX K (BK K Hu Hr (qv K 16) (AJ K 0 G_pair_sum hr D_pair_sum (A3 K (qv K 7) (A7 K)) AI)))))
      (AF K (AW K (Ki K)))
      (BE K))
    (AF K (C5 K (BK K Hu Hr (qv K 4) (AA K))
      (AF K (DC K rfl (Ce K B.range (A3 K (AA K) (A7 K))) (AD K (i:=17) sc_law.nd rfl (by first|exact Or.inl rfl|exact Or.inr rfl))
      (A8 K (AS K (i:=14) sc_law.nd rfl (by first|exact Or.inl rfl|exact Or.inr rfl) (AJ K 2 G_row hr D_row (A3 K (qv K 1) (A3 K (qv K 3) (A7 K))) AI))
    (AF K (C5 K (BK K ((JF).or (FB K hr.units)) (Ae HG HH) (AJ K 0 G_lworth hr D_lworth (A3 K (qv K 7) (A3 K (qv K 14) (A7 K))) AI) (AJ K 0 G_lworth hr D_lworth (A3 K (qv K 8) (A3 K (Tm (qv K 14) (JA K (AA K))) (A7 K))) AI))
      (AF K (AW K (Ki K)))
      (BE K))))))
      (BE K)))))))))))))))))))
    (AF K (AW K (Ki K)))))⟩
end
end T69
namespace Bd
open PySem L2
end Bd
namespace Rw
open PySem L2 Bd
end Rw
namespace L2
open PySem PySem.Spec PyProof.Rows
section
variable{hd:Hd}{QE:D->Hd->Prop}{d:D}
end
end L2
namespace Bt
open PySem L2 Bd
noncomputable def CK(t:Tp):List D:=[.mu 0,.im (.int t.nx),.im (.int t.lf),.im (.int t.tn)]
noncomputable def tl(t:Tp):Hd:=[.lst (t.cells.map λ i=>.im (.int i)),.lst (CK t)]
@[simp] theorem Yl(t:Tp):(tl t).length=2:=rfl
@[simp] theorem ZZ(t:Tp)(r:Hd):(tl t ++ r)[0]? = some (.lst (t.cells.map λ i=>.im (.int i))):=rfl
@[simp] theorem ZY(t:Tp)(r:Hd):(tl t ++ r)[1]? = some (.lst (CK t)):=rfl
@[simp] theorem tl0(t:Tp):(tl t)[0]? = some (.lst (t.cells.map λ i=>.im (.int i))):=rfl
@[simp] theorem tl1(t:Tp):(tl t)[1]? = some (.lst (CK t)):=rfl
@[simp] theorem tln(t:Tp):(CK t).length=4:=rfl
section
variable(t:Tp)(v:Int)
@[simp] theorem Zd:atI (CK t) 0=some (.mu 0):=Dx (j:=0) rfl
@[simp] theorem Zc:atI (CK t) 1=some (.im (.int t.nx)):=Dx (j:=1) rfl
@[simp] theorem Zb:atI (CK t) 2=some (.im (.int t.lf)):=Dx (j:=2) rfl
@[simp] theorem Za:atI (CK t) 3=some (.im (.int t.tn)):=Dx (j:=3) rfl
@[simp] theorem ZQ:ixN 4 1=some 1:=rfl
@[simp] theorem ZP:ixN 4 2=some 2:=rfl
@[simp] theorem ZO:ixN 4 3=some 3:=rfl
@[simp] theorem Yj:(CK t).set 1 (.im (.int v))=CK { t with nx:=v }:=rfl
@[simp] theorem Yi:(CK t).set 2 (.im (.int v))=CK { t with lf:=v }:=rfl
@[simp] theorem Yh:(CK t).set 3 (.im (.int v))=CK { t with tn:=v }:=rfl
end
@[simp] theorem Z7(t t':Tp)(h:t'.cells=t.cells):(tl t).set 1 (.lst (CK t'))=tl t':=by unfold tl;rw[h];rfl
@[simp high] theorem ZX(t:Tp)(x:MO)(r:Hd):(tl t ++ (x :: r))[2]? = some x:=rfl
@[simp high] theorem ZW(t:Tp)(x y:MO)(r:Hd):(tl t ++ (x :: y :: r))[3]? = some y:=rfl
@[simp high] theorem Z9(t:Tp)(x y:MO)(r:Hd):(tl t ++ (x :: r)).set 2 y=tl t ++ (y :: r):=rfl
@[simp high] theorem Z8(t:Tp)(x y z:MO)(r:Hd):(tl t ++ (x :: y :: r)).set 3 z=tl t ++ (x :: z :: r):=rfl
@[simp] theorem X7(t:Tp):(tl t).all (clO 2)=true:=by simp[tl,clO,Pp,CK,clD,BT]
structure DrawL(P:List D->Hd->Option (D × Hd))(τ:Tp)(many:Int)(r:Int)(τ':Tp):Prop where
  lo:0 <= r
  hi:r < many
  eq:P [.mu 1,.im (.int many)] (tl τ)=some (.im (.int r),tl τ')
section
variable{P:List D->Hd->Option (D × Hd)}{τ τ':Tp}{many r:Int}
end
end Bt
namespace T69
open PySem L2 Bd Bt
noncomputable def GT(cell turn:Int):Int:=(cell % 2147483647 + 40503 * turn + 11) % 2147483629
noncomputable def Js(x turn:Int):Int:=(x * x + 25717 * turn + 3) % 2147483587
noncomputable def W8(x:Int):Int:=(x * x + 16807 * x + 1) % 2147483579
theorem mk1(j:Int):CU 40503 j:=Bb (by decide) (by decide)
theorem mk2(j:Int):CU 25717 j:=Bb (by decide) (by decide)
theorem mk3(j:Int):CU 16807 j:=Bb (by decide) (by decide)
theorem mo1:CV 2147483587:=by unfold CV;decide
theorem mo2:CV 2147483629:=by unfold CV;decide
theorem mo3:CV 2147483647:=by unfold CV;decide
theorem mo4:CV 2147483579:=by unfold CV;decide
theorem di1:Km 256:=by unfold Km;decide
theorem Tz(τ:Tp)(many:Int)(h0:0 < many)(h1:many < 1073741824):∃ r τ',DrawL By τ many r τ':=by
  have hm:CV many:=h0
  have hv:Km many:=⟨h0,h1⟩
  by_cases hl:τ.lf > 0
  . refine⟨τ.lf % many,{ τ with tn:=τ.tn + 1,lf:=τ.lf / many },(Eu many h0).1,(Eu many h0).2,?_⟩
    simp[By,mkF,hl,hm,hv]
  . have key:∀ cell:Int,(if τ.cells=[]then cell=6 else atI (τ.cells.map λ i=>D.im (.int i)) (τ.nx % (τ.cells.length:Int))=some (.im (.int cell))) ->
        ∃ r τ',DrawL By τ many r τ':=by
      intro cell hcell
      have b1:=Eu (x:=cell % 2147483647 + 40503 * (τ.tn + 1) + 11) 2147483629 (by decide)
      have b2:=Eu (x:=GT cell (τ.tn + 1) * GT cell (τ.tn + 1) + 25717 * (τ.tn + 1) + 3) 2147483587 (by decide)
      have c1:∀ j,CU (GT cell (τ.tn + 1)) j:=λ j=>Bb (by unfold GT;omega) (by unfold GT;omega)
      have c2:∀ j,CU (Js (GT cell (τ.tn + 1)) (τ.tn + 1)) j:=λ j=>Bb (by unfold Js;omega) (by unfold Js;omega)
      by_cases hb:cell >= 1000000000000000000/\τ.nx < (τ.cells.length:Int)
      . refine⟨cell % many,{ τ with tn:=τ.tn + 1,nx:=τ.nx + 1,lf:=cell / many },(Eu many h0).1,(Eu many h0).2,?_⟩
        by_cases hc:τ.cells=[]
        . rw[if_pos hc]at hcell;subst hcell;omega
        . rw[if_neg hc]at hcell
          have hl0:0 < τ.cells.length:=G4 hc
          have hl0':CV (τ.cells.length:Int):=by unfold CV;omega
          simp[By,mkF,hl,hm,hv,mk1,mk2,mk3,mo1,mo2,mo3,mo4,di1,po1,GW,pyD,FA,FO,I.pys,GE,hc,hcell,hl0',hb.1,hb.2,CN]
      . refine⟨W8 (Js (GT cell (τ.tn + 1)) (τ.tn + 1)) / 256 % many,{ τ with tn:=τ.tn + 1,nx:=τ.nx + 1 },(Eu many h0).1,(Eu many h0).2,?_⟩
        have hb':1000000000000000000 <= cell->¬ τ.nx < (τ.cells.length:Int):=λ a b=>hb ⟨a,b⟩
        unfold GT at c1 c2
        unfold Js at c2
        unfold W8 Js GT
        by_cases hc:τ.cells=[]
        . rw[if_pos hc]at hcell;subst hcell
          simp only[Int.reduceMod]at c1 c2
          simp[By,mkF,hl,hm,hv,mk1,mk2,mk3,mo1,mo2,mo3,mo4,di1,po1,GW,pyD,FA,FO,I.pys,GE,Wr,hc,CN,c1,c2]
        . rw[if_neg hc]at hcell
          have hl0:0 < τ.cells.length:=G4 hc
          have hl0':CV (τ.cells.length:Int):=by unfold CV;omega
          by_cases hd:1000000000000000000 <= cell
          . simp[By,mkF,hl,hm,hv,mk1,mk2,mk3,mo1,mo2,mo3,mo4,di1,po1,GW,pyD,FA,FO,I.pys,GE,hc,hcell,hl0',CN,c1,c2,hd,hb' hd]
          . simp[By,mkF,hl,hm,hv,mk1,mk2,mk3,mo1,mo2,mo3,mo4,di1,po1,GW,pyD,FA,FO,I.pys,GE,hc,hcell,hl0',CN,c1,c2,hd]
    by_cases hc:τ.cells=[]
    . exact key 6 (by rw[if_pos hc])
    . obtain⟨c,e⟩:=Xt hc τ.nx
      exact key c (by rw[if_neg hc];exact e)
theorem T3(ns:List Int):∃ τ,Hk [.ro ns] []=some (.mu 1,tl τ):=by
  obtain⟨cs,e⟩:=S7 ns none (some 63)
  refine⟨⟨cs,0,0,0⟩,?_⟩
  simp[Hk,mkF,e,tl,CK]
noncomputable def T(_:Nat)(a b:MO):Prop:=∃ τ:Tp,tl τ=[a,b]
theorem tap:Tap T By where
  cl:=by
    rintro k a b ⟨τ,e⟩
    have:=X7 τ
    rw[e]at this
    simpa using this
  le:=λ h _=>h
  pick:=by
    rintro k a b many ⟨τ,e⟩ h0 h1
    obtain⟨r,τ',d⟩:=Tz τ many h0 h1
    refine⟨r,.lst (τ'.cells.map λ i=>.im (.int i)),.lst (CK τ'),d.lo,d.hi,?_,τ',rfl⟩
    rw[<- e]
    exact d.eq
noncomputable abbrev wk(c:Int)(p:Int × Int):Wk:=⟨p.1,c,.ends p.2⟩
noncomputable abbrev Av(c:Int)(ws:List (Int × Int)):I:=DO (ws.map (wk c))
structure WOk(c:Int)(ws:List (Int × Int)):Prop where
  c0:0 <= c
  c1:c <= 60
  n1:1 <= ws.length
  n8:ws.length <= 8
  each:∀ p ∈ ws,1 <= p.1/\p.1 <= 1000000/\0 <= p.2/\p.2 <= 1000000
noncomputable abbrev wkD(c:Int)(p:Int × Int):D:=.im (Bj (wk c p))
theorem PD(c:Int)(ws:List (Int × Int)):Ai (ws.map (wkD c))=.im (Av c ws):=by
  have:ws.map (wkD c)=((ws.map (wk c)).map Bj).map D.im:=by simp
  rw[this,CZ]
end T69
namespace Fs
noncomputable def Sm(f:Nat->Int)(B:List Nat):Int:=(B.map f).sum
theorem E1(f:Nat->Int):Sm f []=0:=rfl
theorem Ay(f:Nat->Int)(x:Nat)(B:List Nat):Sm f (x :: B)=f x + Sm f B:=by simp[Sm]
theorem FK(f:Nat->Int)(A B:List Nat):Sm f (A ++ B)=Sm f A + Sm f B:=by simp[Sm,List.sum_append]
theorem FJ(f:Nat->Int)(p:Nat->Bool)(B:List Nat):Sm f (B.filter p) + Sm f (B.filter λ x=>!p x)=Sm f B:=by
  induction B with
  | nil=>rfl
  | cons x r ih=>
    rw[List.filter_cons,List.filter_cons,Ay]
    cases h:p x <;> simp[Ay] <;> omega
theorem Na{f:Nat->Int}{B:List Nat}(h:∀ x ∈ B,0 <= f x):0 <= Sm f B:=by
  induction B with
  | nil=>simp[E1]
  | cons x r ih=>
    have:=h x (by simp);have:=ih λ y hy=>h y (by simp[hy])
    rw[Ay];omega
theorem HC{f:Nat->Int}{B:List Nat}(h:∀ x ∈ B,0 < f x)(hB:B ≠ []):0 < Sm f B:=by
  cases B with
  | nil=>exact absurd rfl hB
  | cons x r=>
    have:=h x (by simp);have:=Na (f:=f) (B:=r) λ y hy=>Int.le_of_lt (h y (by simp[hy]))
    rw[Ay];omega
theorem rtr{a b c d e f:Int}(hd:0 < d)(hb:0 <= b)(hf:0 <= f)(h1:c * b <= a * d)(h2:e * d <= c * f):e * b <= a * f:=by
  have k1:c * b * f <= a * d * f:=Int.mul_le_mul_of_nonneg_right h1 hf
  have k2:e * d * b <= c * f * b:=Int.mul_le_mul_of_nonneg_right h2 hb
  have e1:c * b * f=c * f * b:=by rw[Int.mul_assoc,Int.mul_comm b f,<- Int.mul_assoc]
  have e2:a * d * f=a * f * d:=by rw[Int.mul_assoc,Int.mul_comm d f,<- Int.mul_assoc]
  have e3:e * d * b=e * b * d:=by rw[Int.mul_assoc,Int.mul_comm d b,<- Int.mul_assoc]
  exact Int.le_of_mul_le_mul_right (by omega:e * b * d <= a * f * d) hd
theorem Y5{a b c d e f:Int}(hd:0 < d)(hb:0 < b)(hf:0 <= f)(h1:c * b <= a * d)(h2:e * d < c * f):e * b < a * f:=by
  have k1:c * b * f <= a * d * f:=Int.mul_le_mul_of_nonneg_right h1 hf
  have k2:e * d * b < c * f * b:=Int.mul_lt_mul_of_pos_right h2 hb
  have e1:c * b * f=c * f * b:=by rw[Int.mul_assoc,Int.mul_comm b f,<- Int.mul_assoc]
  have e2:a * d * f=a * f * d:=by rw[Int.mul_assoc,Int.mul_comm d f,<- Int.mul_assoc]
  have e3:e * d * b=e * b * d:=by rw[Int.mul_assoc,Int.mul_comm d b,<- Int.mul_assoc]
  exact Int.lt_of_mul_lt_mul_right (by omega:e * b * d < a * f * d) (Int.le_of_lt hd)
variable(up:Nat->Option Nat)(pos:Nat->Nat)(l w:Nat->Int)
noncomputable abbrev Ge(A B:List Nat):Prop:=Sm w B * Sm l A <= Sm w A * Sm l B
noncomputable abbrev Lt(A B:List Nat):Prop:=Sm w A * Sm l B < Sm w B * Sm l A
noncomputable def Cl(B:List Nat)(p:Nat->Bool):Prop:=∀ v ∈ B,p v=true->∀ u,up v=some u->u ∈ B->p u=true
noncomputable def Ord:List Nat->List Nat->Prop
  | _,[]=>True
  | s,v :: r=>(∃ u ∈ s,up v=some u)/\Ord (v :: s) r
structure Hold(B:List Nat):Prop where
  ex:∃ h t,B=h :: t/\Ord up [h] t/\∀ v ∈ B,pos h <= pos v
  part:∀ p,Cl up B p->(∃ v ∈ B,p v=true)->(∃ v ∈ B,p v=false)->Sm w (B.filter p) * Sm l B < Sm w B * Sm l (B.filter p)
inductive Anc:Nat->Nat->Prop
  | refl (a:Nat):Anc a a
  | step {a u v:Nat}:Anc a u->up v=some u->Anc a v
structure Line(S:List Nat)(bs:List (List Nat)):Prop where
  mem:∀ v,v ∈ bs.flatten ↔ ∃ a ∈ S,Anc up a v
  nd:bs.flatten.Nodup
  hold:∀ B ∈ bs,Hold up pos l w B
  fall:bs.Pairwise (Ge l w)
  par:∀ X B Y,bs=X ++ B :: Y->∃ h t,B=h :: t/\(h ∈ S ∨ ∃ u ∈ X.flatten,up h=some u)
structure Pre(S:List Nat)(bs:List (List Nat)):Prop where
  mem:∀ v,v ∈ bs.flatten ↔ ∃ a ∈ S,Anc up a v
  nd:bs.flatten.Nodup
  hold:∀ B ∈ bs,Hold up pos l w B
  par:∀ (i:Nat) (B:List Nat),bs[i]? = some B->∃ h t,B=h :: t/\(h ∈ S ∨ ∃ (j:Nat) (A:List Nat) (u:Nat),j < i/\bs[j]? = some A/\u ∈ A/\up h=some u/\Ge l w A B)
variable{up pos l w}
theorem Ord.mono:∀ {r s s':List Nat},(∀ x ∈ s,x ∈ s')->Ord up s r->Ord up s' r
  | [],_,_,_,_=>trivial
  | v :: r,s,s',h,⟨⟨u,hu,e⟩,o⟩=>⟨⟨u,h u hu,e⟩,o.mono λ x hx=>by rcases List.mem_cons.mp hx with rfl|hx;exact List.mem_cons_self;exact List.mem_cons_of_mem _ (h x hx)⟩
theorem Ord.app:∀ {r r' s:List Nat},Ord up s r->Ord up (r ++ s) r'->Ord up s (r ++ r')
  | [],_,_,_,h=>h
  | v :: r,r',s,⟨h,o⟩,h'=>⟨h,o.app (h'.mono λ x hx=>by
      rcases List.mem_append.mp hx with hx|hx
      . rcases List.mem_cons.mp hx with rfl|hx
        . simp
        . simp[hx]
      . simp[hx])⟩
theorem Ord.get:∀ {r s:List Nat} {i v:Nat},Ord up s r->r[i]? = some v->∃ u,up v=some u/\(u ∈ s ∨ u ∈ r.take i)
  | [],_,_,_,_,e=>by simp at e
  | x :: r,s,0,v,⟨⟨u,hu,e1⟩,_⟩,e=>by simp at e;subst e;exact⟨u,e1,.inl hu⟩
  | x :: r,s,i + 1,v,⟨_,o⟩,e=>by
    obtain⟨u,e1,h⟩:=o.get (i:=i) (v:=v) (by simpa using e)
    refine⟨u,e1,?_⟩
    rcases h with h|h
    . rcases List.mem_cons.mp h with rfl|h
      . exact .inr (by simp)
      . exact .inl h
    . exact .inr (by simp[h])
section
variable(hup:∀ v u,up v=some u->pos u < pos v)(hl:∀ v,0 < l v)
theorem Anc.trans{a b v:Nat}(h:Anc up a b)(h':Anc up b v):Anc up a v:=by
  induction h' with
  | refl=>exact h
  | step _ e ih=>exact .step ih e
include hup in
theorem Anc.ps{a v:Nat}(h:Anc up a v):pos a <= pos v:=by
  induction h with
  | refl=>exact Nat.le_refl _
  | step _ e ih=>have:=hup _ _ e;omega
theorem Anc.iff{a v:Nat}:Anc up a v ↔ v=a ∨ ∃ c,up c=some a/\Anc up c v:=by
  constructor
  . intro h
    induction h with
    | refl=>exact .inl rfl
    | step _ e ih=>
      rcases ih with rfl|⟨c,e1,h⟩
      . exact .inr ⟨_,e,.refl _⟩
      . exact .inr ⟨c,e1,.step h e⟩
  . rintro(rfl|⟨c,e,h⟩)
    . exact .refl _
    . exact Anc.trans (.step (.refl _) e) h
theorem Anc.two{a b v:Nat}(h:Anc up a v)(h':Anc up b v):Anc up a b ∨ Anc up b a:=by
  induction h with
  | refl=>exact .inr h'
  | step h1 e ih=>
    cases h' with
    | refl=>exact .inl (.step h1 e)
    | step h2 e2=>rw[e]at e2;cases e2;exact ih h2
include hup in
theorem TJ{B:List Nat}{h:Nat}{p:Nat->Bool}(c:∀ v ∈ B,v=h ∨ ∃ u ∈ B,up v=some u)(k:Cl up B p):∀ n v,pos v <= n->v ∈ B->p v=true->p h=true:=by
  intro n
  induction n with
  | zero=>
    intro v hn hv q
    rcases c v hv with rfl|⟨u,hu,e⟩
    . exact q
    . have:=hup _ _ e;omega
  | succ n ih=>
    intro v hn hv q
    rcases c v hv with rfl|⟨u,hu,e⟩
    . exact q
    . have:=hup _ _ e
      exact ih u (by omega) hu (k v hv q u e hu)
theorem Xr{B:List Nat}{p:Nat->Bool}(h:Sm w (B.filter p) * Sm l B < Sm w B * Sm l (B.filter p)):Sm w B * Sm l (B.filter λ x=>!p x) < Sm w (B.filter λ x=>!p x) * Sm l B:=by
  have e1:=FJ w p B;have e2:=FJ l p B
  have k1:=Int.mul_add (Sm w B) (Sm l (B.filter p)) (Sm l (B.filter λ x=>!p x))
  have k2:=Int.add_mul (Sm w (B.filter p)) (Sm w (B.filter λ x=>!p x)) (Sm l B)
  rw[e2]at k1;rw[e1]at k2
  omega
theorem Wq{B:List Nat}{p:Nat->Bool}(h:Sm w B * Sm l (B.filter λ x=>!p x) < Sm w (B.filter λ x=>!p x) * Sm l B):Sm w (B.filter p) * Sm l B < Sm w B * Sm l (B.filter p):=by
  have e1:=FJ w p B;have e2:=FJ l p B
  have k1:=Int.mul_add (Sm w B) (Sm l (B.filter p)) (Sm l (B.filter λ x=>!p x))
  have k2:=Int.add_mul (Sm w (B.filter p)) (Sm w (B.filter λ x=>!p x)) (Sm l B)
  rw[e2]at k1;rw[e1]at k2
  omega
theorem O4{B:List Nat}{p:Nat->Bool}(h:Hold up pos l w B)(c:Cl up B p):Sm w B * Sm l (B.filter λ x=>!p x) <= Sm w (B.filter λ x=>!p x) * Sm l B:=by
  by_cases t:∃ v ∈ B,p v=true
  . by_cases f:∃ v ∈ B,p v=false
    . exact Int.le_of_lt (Xr (h.part p c t f))
    . have:(B.filter λ x=>!p x)=[]:=List.filter_eq_nil_iff.mpr λ v hv q=>f ⟨v,hv,by simpa using q⟩
      rw[this];simp[E1]
  . have:(B.filter λ x=>!p x)=B:=List.filter_eq_self.mpr λ v hv=>by
      cases e:p v with
      | true=>exact absurd ⟨v,hv,e⟩ t
      | false=>rfl
    rw[this];exact Int.le_refl _
theorem Dq{bs:List (List Nat)}{m:Nat}{A:List Nat}(e:bs[m]? = some A):(bs.take (m + 1)).flatten=(bs.take m).flatten ++ A:=by
  rw[List.take_succ,e];simp
include hl in
theorem jm{a:Nat}{S:List Nat}{bs:List (List Nat)}(L:Line up pos l w S bs):∀ m A,bs[m]? = some A->∀ p,Cl up (a :: (bs.take (m + 1)).flatten) p->p a=true ->
    Sm w A * Sm l ((a :: (bs.take (m + 1)).flatten).filter λ x=>!p x) <= Sm w ((a :: (bs.take (m + 1)).flatten).filter λ x=>!p x) * Sm l A:=by
  intro m
  have hA:∀ {m:Nat} {A:List Nat},bs[m]? = some A->A ∈ bs:=λ e=>List.mem_of_getElem? e
  have lp:∀ {A:List Nat},A ∈ bs->0 < Sm l A:=λ h=>HC (λ x _=>hl x) (by obtain⟨_,_,e,_⟩:=(L.hold _ h).ex;rw[e];simp)
  induction m with
  | zero=>
    intro A e p c pa
    have:=O4 (L.hold A (hA e)) (p:=p) λ v hv q u eu hu=>c v (by rw[Dq e];simp[hv]) q u eu (by rw[Dq e];simp[hu])
    rw[Dq e]
    simpa [List.filter_cons,pa]using this
  | succ m ih=>
    intro A e p c pa
    have hm:m < bs.length:=by have:=(List.getElem?_eq_some_iff.mp e).1;omega
    have e0:bs[m]? = some bs[m]:=List.getElem?_eq_getElem hm
    have c0:Cl up (a :: (bs.take (m + 1)).flatten) p:=λ v hv q u eu hu=>c v (by rw[Dq e];rcases List.mem_cons.mp hv with rfl|hv;simp;simp only[List.mem_cons,List.mem_append];exact .inr (.inl hv)) q u eu (by rw[Dq e];rcases List.mem_cons.mp hu with rfl|hu;simp;simp only[List.mem_cons,List.mem_append];exact .inr (.inl hu))
    have h1:=ih _ e0 p c0 pa
    have h2:=O4 (L.hold A (hA e)) (p:=p) λ v hv q u eu hu=>c v (by rw[Dq e];simp[hv]) q u eu (by rw[Dq e];simp[hu])
    have hf:Ge l w bs[m] A:=by
      obtain⟨hi,rfl⟩:=List.getElem?_eq_some_iff.mp e
      exact(List.pairwise_iff_getElem.mp L.fall) m (m + 1) hm hi (by omega)
    rw[Dq e,<- List.cons_append,List.filter_append,FK,FK]
    have h3:=rtr (lp (hA e0)) (Na λ x _=>Int.le_of_lt (hl x)) (Int.le_of_lt (lp (hA e))) h1 hf
    rw[Int.mul_add,Int.add_mul]
    omega
include hup hl in
theorem Qn{a:Nat}{ch:List Nat}{bs:List (List Nat)}(hch:∀ b,b ∈ ch ↔ up b=some a)(L:Line up pos l w ch bs){m:Nat}(hm:m <= bs.length)(lt:∀ i B,i < m->bs[i]? = some B->Lt l w (a :: (bs.take i).flatten) B)
    (stop:∀ B,bs[m]? = some B->¬ Lt l w (a :: (bs.take m).flatten) B):Line up pos l w [a] ((a :: (bs.take m).flatten) :: bs.drop m):=by
  have fl:((a :: (bs.take m).flatten) :: bs.drop m).flatten=a :: bs.flatten:=by
    rw[List.flatten_cons,List.cons_append,<- List.flatten_append,List.take_append_drop]
  have hm1:∀ v,v ∈ a :: bs.flatten ↔ Anc up a v:=by
    intro v
    rw[List.mem_cons,L.mem,Anc.iff]
    constructor
    . rintro(h|⟨c,hc,h⟩)
      . exact .inl h
      . exact .inr ⟨c,(hch c).mp hc,h⟩
    . rintro(h|⟨c,hc,h⟩)
      . exact .inl h
      . exact .inr ⟨c,(hch c).mpr hc,h⟩
  have na:a ∉ bs.flatten:=by
    intro h
    obtain⟨c,hc,h⟩:=(L.mem a).mp h
    have:=h.ps hup;have:=hup _ _ ((hch c).mp hc);omega
  have ord:∀ m,m <= bs.length->Ord up [a] (bs.take m).flatten:=by
    intro m
    induction m with
    | zero=>intro _;simp[Ord]
    | succ m ih=>
      intro hm
      have e:bs[m]? = some bs[m]:=List.getElem?_eq_getElem hm
      rw[Dq e]
      refine(ih (by omega)).app ?_
      obtain⟨h,t,eB,ho,_⟩:=(L.hold bs[m] (List.getElem_mem hm)).ex
      obtain⟨h',t',eB',hp⟩:=L.par (bs.take m) bs[m] (bs.drop (m + 1)) (by rw[<- List.drop_eq_getElem_cons hm,List.take_append_drop])
      rw[eB]at eB'
      obtain⟨rfl,rfl⟩:=List.cons.inj eB'
      rw[eB]
      refine⟨?_,ho.mono (by intro x hx;simp at hx;subst hx;simp)⟩
      rcases hp with hp|⟨u,hu,e⟩
      . exact⟨a,by simp,(hch h).mp hp⟩
      . exact⟨u,List.mem_append_left _ hu,e⟩
  have sub:∀ v ∈ a :: (bs.take m).flatten,v ∈ a :: bs.flatten:=λ v hv=>by
    rcases List.mem_cons.mp hv with rfl|hv
    . simp
    . obtain⟨B,h1,h2⟩:=List.mem_flatten.mp hv
      exact List.mem_cons_of_mem _ (List.mem_flatten.mpr ⟨B,List.mem_of_mem_take h1,h2⟩)
  have lp:∀ {A:List Nat},A ∈ bs->0 < Sm l A:=λ h=>HC (λ x _=>hl x) (by obtain⟨_,_,e,_⟩:=(L.hold _ h).ex;rw[e];simp)
  have lc:0 < Sm l (a :: (bs.take m).flatten):=HC (λ x _=>hl x) (by simp)
  constructor
  . intro v;rw[fl,hm1];simp
  . rw[fl];exact List.nodup_cons.mpr ⟨na,L.nd⟩
  . intro B hB
    refine(List.mem_cons.mp hB).elim (λ eB=>?_) λ hB=>L.hold B (List.mem_of_mem_drop hB)
    subst eB
    refine⟨⟨a,_,rfl,ord m hm,λ v hv=>((hm1 v).mp (sub v hv)).ps hup⟩,λ p c t f=>?_⟩
    have chain:∀ v ∈ a :: (bs.take m).flatten,v=a ∨ ∃ u ∈ a :: (bs.take m).flatten,up v=some u:=by
      intro v hv
      rcases List.mem_cons.mp hv with rfl|hv
      . exact .inl rfl
      . obtain⟨i,hi,e⟩:=List.mem_iff_getElem.mp hv
        obtain⟨u,e1,h⟩:=(ord m hm).get (i:=i) (v:=v) (by rw[List.getElem?_eq_getElem hi,e])
        refine .inr ⟨u,?_,e1⟩
        rcases h with h|h
        . simp at h;subst h;simp
        . exact List.mem_cons_of_mem _ (List.mem_of_mem_take h)
    obtain⟨v,hv,pv⟩:=t
    have pa:p a=true:=TJ hup chain c (pos v) v (Nat.le_refl _) hv pv
    cases m with
    | zero=>
      obtain⟨v,hv,q⟩:=f
      simp at hv;subst hv
      rw[pa]at q;cases q
    | succ m=>
      have e:bs[m]? = some bs[m]:=List.getElem?_eq_getElem hm
      have hB:bs[m] ∈ bs:=List.getElem_mem hm
      have j:=jm hl L m _ e p c pa
      have k:=lt m _ (by omega) e
      have k2:Sm w (a :: (bs.take (m + 1)).flatten) * Sm l bs[m] < Sm w bs[m] * Sm l (a :: (bs.take (m + 1)).flatten):=by
        rw[Dq e,<- List.cons_append,FK,FK,Int.add_mul,Int.mul_add]
        unfold Lt at k
        omega
      refine Wq (Y5 (lp hB) (HC (λ x _=>hl x) ?_) (Int.le_of_lt lc) j k2)
      obtain⟨v,hv,q⟩:=f
      intro z
      have:v ∈ ((a :: (bs.take (m + 1)).flatten).filter λ x=>!p x):=List.mem_filter.mpr ⟨hv,by simp[q]⟩
      rw[z]at this;cases this
  . refine List.pairwise_cons.mpr ⟨λ B hB=>?_,L.fall.sublist (List.drop_sublist _ _)⟩
    have hlt:m < bs.length:=by
      rcases Nat.lt_or_ge m bs.length with h|h
      . exact h
      . rw[List.drop_eq_nil_of_le h]at hB;cases hB
    have e:bs[m]? = some bs[m]:=List.getElem?_eq_getElem hlt
    have s:=stop _ e
    have g0:Ge l w (a :: (bs.take m).flatten) bs[m]:=by unfold Lt at s;unfold Ge;omega
    rw[List.drop_eq_getElem_cons hlt]at hB
    rcases List.mem_cons.mp hB with rfl|hB
    . exact g0
    . obtain⟨i,hi,e2⟩:=List.mem_iff_getElem.mp hB
      have hi':m + 1 + i < bs.length:=by simp at hi;omega
      have e3:B=bs[m + 1 + i]:=by rw[<- e2];simp
      subst e3
      have g1:=(List.pairwise_iff_getElem.mp L.fall) m (m + 1 + i) hlt hi' (by omega)
      exact rtr (lp (List.getElem_mem hlt)) (Int.le_of_lt lc) (Int.le_of_lt (lp (List.getElem_mem hi'))) g0 g1
  . intro X B Y eq
    cases X with
    | nil=>simp at eq;rw[<- eq.1];exact⟨a,_,rfl,.inl (by simp)⟩
    | cons C X=>
      simp only[List.cons_append,List.cons.injEq]at eq
      obtain⟨rfl,eq⟩:=eq
      obtain⟨h,t,eB,hp⟩:=L.par (bs.take m ++ X) B Y (by rw[List.append_assoc,<- eq,List.take_append_drop])
      refine⟨h,t,eB,.inr ?_⟩
      rcases hp with hp|⟨u,hu,e⟩
      . exact⟨a,by simp,(hch h).mp hp⟩
      . refine⟨u,?_,e⟩
        rw[List.flatten_append]at hu
        rw[List.flatten_cons,List.cons_append]
        exact List.mem_cons_of_mem _ hu
theorem Tu:Pre up pos l w [] []:=⟨by simp,by simp,by simp,by simp⟩
theorem Tv{S:List Nat}{bs g:List (List Nat)}{a:Nat}(P:Pre up pos l w S bs)(L:Line up pos l w [a] g)(sib:∀ b ∈ S,∀ v,Anc up a v->Anc up b v->False):Pre up pos l w (S ++ [a]) (bs ++ g):=by
  constructor
  . intro v
    rw[List.flatten_append,List.mem_append,P.mem,L.mem]
    constructor
    . rintro(⟨b,hb,h⟩|⟨b,hb,h⟩)
      . exact⟨b,by simp[hb],h⟩
      . exact⟨b,List.mem_append_right _ hb,h⟩
    . rintro⟨b,hb,h⟩
      rcases List.mem_append.mp hb with hb|hb
      . exact .inl ⟨b,hb,h⟩
      . exact .inr ⟨b,hb,h⟩
  . rw[List.flatten_append]
    refine List.nodup_append.mpr ⟨P.nd,L.nd,λ x hx y hy e=>?_⟩
    subst e
    obtain⟨b,hb,h⟩:=(P.mem x).mp hx
    obtain⟨c,hc,h'⟩:=(L.mem x).mp hy
    simp at hc;subst hc
    exact sib b hb x h' h
  . intro B hB
    rcases List.mem_append.mp hB with h|h
    . exact P.hold B h
    . exact L.hold B h
  . intro i B e
    rcases Nat.lt_or_ge i bs.length with hi|hi
    . rw[List.getElem?_append_left hi]at e
      obtain⟨h,t,eB,hp⟩:=P.par i B e
      refine⟨h,t,eB,?_⟩
      rcases hp with hp|⟨j,A,u,hj,eA,hu,e1,ge⟩
      . exact .inl (by simp[hp])
      . exact .inr ⟨j,A,u,hj,by rw[List.getElem?_append_left (by omega)];exact eA,hu,e1,ge⟩
    . rw[List.getElem?_append_right hi]at e
      obtain⟨hg,eg⟩:=List.getElem?_eq_some_iff.mp e
      obtain⟨h,t,eB,hp⟩:=L.par (g.take (i - bs.length)) B (g.drop (i - bs.length + 1)) (by rw[<- eg,<- List.drop_eq_getElem_cons hg,List.take_append_drop])
      refine⟨h,t,eB,?_⟩
      rcases hp with hp|⟨u,hu,e1⟩
      . exact .inl (List.mem_append_right _ hp)
      . obtain⟨A,hA,hu⟩:=List.mem_flatten.mp hu
        obtain⟨j,hj,eA⟩:=List.mem_iff_getElem.mp hA
        have hj':j < i - bs.length/\j < g.length:=by simp at hj;omega
        have eA':g[j]=A:=by rw[<- eA];simp
        refine .inr ⟨bs.length + j,A,u,by omega,?_,hu,e1,?_⟩
        . rw[List.getElem?_append_right (by omega),Nat.add_sub_cancel_left,List.getElem?_eq_getElem hj'.2,eA']
        . rw[<- eA',<- eg]
          exact(List.pairwise_iff_getElem.mp L.fall) j (i - bs.length) hj'.2 hg hj'.1
theorem Oc{S:List Nat}{bs:List (List Nat)}{row:List Nat}(P:Pre up pos l w S bs)(pm:row.Perm (List.range bs.length))(pw:row.Pairwise λ x y=>Ge l w (bs.getD x []) (bs.getD y [])/\(Ge l w (bs.getD y []) (bs.getD x [])->x < y)):Line up pos l w S (row.map λ x=>bs.getD x []):=by
  have e0:(List.range bs.length).map (λ x=>bs.getD x [])=bs:=by
    refine List.ext_getElem (by simp) λ i h1 h2=>?_
    simp[h2]
  have pm1:(row.map λ x=>bs.getD x []).Perm bs:=by
    have:=pm.map λ x=>bs.getD x []
    rwa [e0]at this
  have pf:=pm1.flatten
  constructor
  . intro v;rw[pf.mem_iff];exact P.mem v
  . exact pf.nodup_iff.mpr P.nd
  . intro B hB;exact P.hold B (pm1.mem_iff.mp hB)
  . rw[List.pairwise_map];exact pw.imp λ h=>h.1
  . intro X B Y eq
    obtain⟨X0,Z,er,eX,eZ⟩:=List.map_eq_append_iff.mp eq
    obtain⟨y,Y0,rfl,eB,eY⟩:=List.map_eq_cons_iff.mp eZ
    have hy:y < bs.length:=by
                                  have:y ∈ row:=by rw[er];simp
                                  simpa using pm.mem_iff.mp this
    have ey:bs[y]? = some B:=by rw[List.getElem?_eq_getElem hy,<- eB];simp[hy]
    obtain⟨h,t,e,hp⟩:=P.par y B ey
    refine⟨h,t,e,?_⟩
    rcases hp with hp|⟨j,A,u,hj,eA,hu,e1,ge⟩
    . exact .inl hp
    . refine .inr ⟨u,?_,e1⟩
      have ejA:bs.getD j []=A:=by simp[List.getD,eA]
      have hjr:j ∈ row:=pm.mem_iff.mpr (by simp;omega)
      rw[er]at hjr pw
      have hjX:j ∈ X0:=by
        rcases List.mem_append.mp hjr with h1|h1
        . exact h1
        . rcases List.mem_cons.mp h1 with h1|h1
          . omega
          . have:=((List.pairwise_cons.mp (List.pairwise_append.mp pw).2.1).1 j h1).2
            rw[ejA,eB]at this
            have:=this ge
            omega
      rw[<- eX]
      exact List.mem_flatten.mpr ⟨A,List.mem_map.mpr ⟨j,hjX,ejA⟩,hu⟩
end
end Fs
namespace Fs
theorem sm_perm{f:Nat->Int}{A B:List Nat}(h:A.Perm B):Sm f A=Sm f B:=by
  induction h with
  | nil=>rfl
  | cons x _ ih=>rw[Ay,Ay,ih]
  | swap x y r=>rw[Ay,Ay,Ay,Ay];omega
  | trans _ _ h1 h2=>exact h1.trans h2
section
variable(l w:Nat->Int)
noncomputable def Dc:List Nat->Int
  | []=>0
  | x :: r=>l x * (w x + Sm w r) + Dc r
noncomputable def Ct:Int->List Nat->Int
  | _,[]=>0
  | e,x :: r=>w x * (e + l x) + Ct (e + l x) r
variable(q:Nat->Bool)
noncomputable abbrev un(r:List Nat):List Nat:=r.filter λ v=>!q v
noncomputable def Pc:List Nat->Int
  | []=>0
  | x :: r=>(if q x then l x * Sm w (un q r)else 0) + Pc r
noncomputable def Nc:List Nat->Int
  | []=>0
  | x :: r=>(if q x then w x * Sm l (un q r)else 0) + Nc r
noncomputable def Xc:List Nat->Int
  | []=>0
  | x :: r=>(if q x then l x * Sm l (un q r)else 0) + Xc r
noncomputable def Nd:List Nat->Int
  | []=>0
  | x :: r=>(if q x then 0 else l x * Sm w (r.filter q)) + Nd r
noncomputable def Xd:List Nat->Int
  | []=>0
  | x :: r=>(if q x then 0 else l x * Sm l (r.filter q)) + Xd r
end
section
variable{l w:Nat->Int}{q:Nat->Bool}
theorem Sj:∀ (o:List Nat) (e:Int),Ct l w e o=e * Sm w o + Dc l w o
  | [],e=>by simp[Ct,Dc,E1]
  | x :: r,e=>by
    rw[Ct,Dc,Sj r,Ay]
    simp only[Int.mul_add,Int.add_mul]
    rw[Int.mul_comm (w x) e,Int.mul_comm (w x) (l x)]
    omega
theorem Hg:∀ (A B:List Nat),Dc l w (A ++ B)=Dc l w A + Sm l A * Sm w B + Dc l w B
  | [],B=>by simp[Dc,E1]
  | x :: A,B=>by
    rw[List.cons_append,Dc,Dc,Hg A B,FK,Ay]
    simp only[Int.mul_add,Int.add_mul]
    omega
theorem QC(f:Nat->Int)(r:List Nat):Sm f r=Sm f (un q r) + Sm f (r.filter q):=by have:=FJ f q r;unfold un;omega
theorem W7:∀ o:List Nat,Dc l w o + Nc l w q o=Dc l w (un q o ++ o.filter q) + Pc l w q o
  | []=>by simp[Dc,Nc,Pc]
  | x :: r=>by
    have ih:=W7 r
    rw[Hg]at ih ⊢
    have sw:=QC (q:=q) w r
    rw[Dc,Nc,Pc]
    cases hx:q x with
    | true=>
      have e1:un q (x :: r)=un q r:=by simp[un,List.filter_cons,hx]
      have e2:(x :: r).filter q=x :: r.filter q:=by simp[List.filter_cons,hx]
      rw[e1,e2,Dc,Ay,sw]
      simp only[if_true,Int.mul_add]
      rw[Int.mul_comm (Sm l (un q r)) (w x)]
      omega
    | false=>
      have e1:un q (x :: r)=x :: un q r:=by simp[un,List.filter_cons,hx]
      have e2:(x :: r).filter q=r.filter q:=by simp[List.filter_cons,hx]
      rw[e1,e2,Dc,Ay,sw]
      simp only[Bool.false_eq_true,if_false,Int.mul_add,Int.add_mul]
      omega
theorem So:∀ o:List Nat,Nc l w q o + Nd l w q o=Sm w (o.filter q) * Sm l (un q o)
  | []=>by simp[Nc,Nd,E1]
  | x :: r=>by
    have ih:=So r
    rw[Nc,Nd]
    cases hx:q x with
    | true=>
      have e1:un q (x :: r)=un q r:=by simp[un,List.filter_cons,hx]
      have e2:(x :: r).filter q=x :: r.filter q:=by simp[List.filter_cons,hx]
      rw[e1,e2,Ay]
      simp only[if_true,Int.add_mul]
      omega
    | false=>
      have e1:un q (x :: r)=x :: un q r:=by simp[un,List.filter_cons,hx]
      have e2:(x :: r).filter q=r.filter q:=by simp[List.filter_cons,hx]
      rw[e1,e2,Ay]
      simp only[Bool.false_eq_true,if_false,Int.mul_add]
      rw[Int.mul_comm (l x)]
      omega
theorem Sn:∀ o:List Nat,Xc l q o + Xd l q o=Sm l (o.filter q) * Sm l (un q o)
  | []=>by simp[Xc,Xd,E1]
  | x :: r=>by
    have ih:=Sn r
    rw[Xc,Xd]
    cases hx:q x with
    | true=>
      have e1:un q (x :: r)=un q r:=by simp[un,List.filter_cons,hx]
      have e2:(x :: r).filter q=x :: r.filter q:=by simp[List.filter_cons,hx]
      rw[e1,e2,Ay]
      simp only[if_true,Int.add_mul]
      omega
    | false=>
      have e1:un q (x :: r)=x :: un q r:=by simp[un,List.filter_cons,hx]
      have e2:(x :: r).filter q=r.filter q:=by simp[List.filter_cons,hx]
      rw[e1,e2,Ay]
      simp only[Bool.false_eq_true,if_false,Int.mul_add]
      rw[Int.mul_comm (l x)]
      omega
variable(hl:∀ v,0 < l v)
include hl in
theorem Vy{a b:Int}:∀ o:List Nat,(∀ r,r <:+ o->a * Sm l (un q r) <= Sm w (un q r) * b)->a * Xc l q o <= Pc l w q o * b
  | [],_=>by simp[Xc,Pc]
  | x :: r,h=>by
    have ih:=Vy r λ s hs=>h s (hs.trans (List.suffix_cons x r))
    have h1:=h r (List.suffix_cons x r)
    rw[Xc,Pc]
    cases q x with
    | true=>
      simp only[if_true,Int.mul_add,Int.add_mul]
      have h2:=Int.mul_le_mul_of_nonneg_left h1 (Int.le_of_lt (hl x))
      have e1:a * (l x * Sm l (un q r))=l x * (a * Sm l (un q r)):=Int.mul_left_comm _ _ _
      have e2:l x * Sm w (un q r) * b=l x * (Sm w (un q r) * b):=Int.mul_assoc _ _ _
      omega
    | false=>
      simp only[Bool.false_eq_true,if_false,Int.zero_add]
      exact ih
include hl in
theorem W6{a b:Int}:∀ o:List Nat,(∀ r,r <:+ o->a * Sm l (r.filter q) <= Sm w (r.filter q) * b)->a * Xd l q o <= Nd l w q o * b
  | [],_=>by simp[Xd,Nd]
  | x :: r,h=>by
    have ih:=W6 r λ s hs=>h s (hs.trans (List.suffix_cons x r))
    have h1:=h r (List.suffix_cons x r)
    rw[Xd,Nd]
    cases q x with
    | false=>
      simp only[Bool.false_eq_true,if_false,Int.mul_add,Int.add_mul]
      have h2:=Int.mul_le_mul_of_nonneg_left h1 (Int.le_of_lt (hl x))
      have e1:a * (l x * Sm l (r.filter q))=l x * (a * Sm l (r.filter q)):=Int.mul_left_comm _ _ _
      have e2:l x * Sm w (r.filter q) * b=l x * (Sm w (r.filter q) * b):=Int.mul_assoc _ _ _
      omega
    | true=>
      simp only[if_true,Int.zero_add]
      exact ih
include hl in
theorem UE{o:List Nat}(hb:0 < Sm l (o.filter q))(h1:∀ r,r <:+ o->Sm w (o.filter q) * Sm l (un q r) <= Sm w (un q r) * Sm l (o.filter q))(h2:∀ r,r <:+ o->Sm w (o.filter q) * Sm l (r.filter q) <= Sm w (r.filter q) * Sm l (o.filter q)):Dc l w (un q o ++ o.filter q) <= Dc l w o:=by
  have p:=Vy (w:=w) (q:=q) hl o h1
  have n:=W6 (w:=w) (q:=q) hl o h2
  have an:=So (l:=l) (w:=w) (q:=q) o
  have ax:=Sn (l:=l) (q:=q) o
  have m:=W7 (l:=l) (w:=w) (q:=q) o
  generalize Sm w (o.filter q)=a at *
  generalize Sm l (o.filter q)=b at *
  generalize Sm l (un q o)=u at *
  have e1:(Nc l w q o + Nd l w q o) * b=a * u * b:=by rw[an]
  have e2:a * (Xc l q o + Xd l q o)=a * (b * u):=by rw[ax]
  rw[Int.add_mul]at e1
  rw[Int.mul_add]at e2
  have e3:a * u * b=a * (b * u):=by rw[Int.mul_assoc,Int.mul_comm u b]
  have:Nc l w q o * b <= Pc l w q o * b:=by omega
  have:=Int.le_of_mul_le_mul_right this hb
  omega
structure Op(l w:Nat->Int)(bs:List (List Nat))(o:List Nat):Prop where
  pm:o.Perm bs.flatten
  nd:o.Nodup
  fall:bs.Pairwise (Ge l w)
  suf:∀ B ∈ bs,∀ r,r <:+ o->Sm w B * Sm l (B.filter λ v=>decide (v ∈ r)) <= Sm w (B.filter λ v=>decide (v ∈ r)) * Sm l B
  ord:∀ B ∈ bs,o.filter (λ v=>decide (v ∈ B))=B
  ne:∀ B ∈ bs,B ≠ []
include hl in
theorem Iw{M:List Nat}{p:Nat->Bool}:∀ bs:List (List Nat),(∀ B ∈ bs,Sm w M * Sm l (B.filter p) <= Sm w (B.filter p) * Sm l M)->Sm w M * Sm l (bs.flatten.filter p) <= Sm w (bs.flatten.filter p) * Sm l M
  | [],_=>by simp[E1]
  | B :: r,h=>by
    have ih:=Iw r λ C hC=>h C (by simp[hC])
    have h1:=h B (by simp)
    rw[List.flatten_cons,List.filter_append,FK,FK,Int.mul_add,Int.add_mul]
    omega
include hl in
theorem Wv:∀ (n:Nat) (bs:List (List Nat)) (o:List Nat),bs.length=n->Op l w bs o->Dc l w bs.flatten <= Dc l w o
  | 0,bs,o,hn,h=>by
    have e:=List.length_eq_zero_iff.mp hn
    subst e
    have:=h.pm.length_eq
    simp at this
    subst this
    exact Int.le_refl _
  | n + 1,bs,o,hn,h=>by
    have hne:bs ≠ []:=by intro z;rw[z]at hn;simp at hn
    obtain⟨bs',M,rfl⟩:∃ bs' M,bs=bs' ++ [M]:=⟨bs.dropLast,bs.getLast hne,(List.dropLast_concat_getLast hne).symm⟩
    have fl:(bs' ++ [M]).flatten=bs'.flatten ++ M:=by simp
    have pm:=h.pm
    rw[fl]at pm
    have nd2:=pm.nodup_iff.mp h.nd
    have dis:∀ v ∈ bs'.flatten,v ∉ M:=λ v hv hm=>(List.nodup_append.mp nd2).2.2 v hv v hm rfl
    have disB:∀ B ∈ bs',∀ v ∈ B,v ∉ M:=λ B hB v hv=>dis v (List.mem_flatten.mpr ⟨B,hB,hv⟩)
    have oM:o.filter (λ v=>decide (v ∈ M))=M:=h.ord M (by simp)
    have lp:∀ B ∈ bs' ++ [M],0 < Sm l B:=λ B hB=>HC (λ x _=>hl x) (h.ne B hB)
    have lM:=lp M (by simp)
    have sub:∀ r,r <:+ o->∀ v ∈ r,v ∈ o:=λ r hr v hv=>hr.subset hv
    have up':(un (λ v=>decide (v ∈ M)) o).Perm bs'.flatten:=by
      rw[List.perm_ext_iff_of_nodup (h.nd.filter _) (List.nodup_append.mp nd2).1]
      intro v
      rw[List.mem_filter,pm.mem_iff,List.mem_append]
      constructor
      . rintro⟨h1|h1,h2⟩
        . exact h1
        . simp[h1]at h2
      . intro h1;exact⟨.inl h1,by simp[dis v h1]⟩
    have mv:=UE (w:=w) (q:=λ v=>decide (v ∈ M)) (o:=o) hl (by rw[oM];exact lM) ?_ ?_
    . rw[oM,Hg]at mv
      have ih:=Wv n bs' (un (λ v=>decide (v ∈ M)) o) (by simpa using hn) ⟨up',h.nd.filter _,(List.pairwise_append.mp h.fall).1,?_,?_,λ B hB=>h.ne B (by simp[hB])⟩
      . rw[fl,Hg,<- sm_perm up']
        omega
      . intro B hB r1 hr1
        obtain⟨X,eX⟩:=hr1
        obtain⟨l1,l2,eo,_,e2⟩:=List.filter_eq_append_iff.mp eX.symm
        have h1:=h.suf B (by simp[hB]) l2 ⟨l1,eo.symm⟩
        have:B.filter (λ v=>decide (v ∈ r1))=B.filter (λ v=>decide (v ∈ l2)):=List.filter_congr λ v hv=>by
          have:=disB B hB v hv
          rw[<- e2]
          simp[List.mem_filter,this]
        rw[this];exact h1
      . intro B hB
        have:(un (λ v=>decide (v ∈ M)) o).filter (λ v=>decide (v ∈ B))=o.filter (λ v=>decide (v ∈ B)):=by
          unfold un
          rw[List.filter_filter]
          refine List.filter_congr λ v _=>?_
          by_cases hv:v ∈ B
          . simp[hv,disB B hB v hv]
          . simp[hv]
        rw[this];exact h.ord B (by simp[hB])
    . intro r hr
      rw[oM]
      have pr:(un (λ v=>decide (v ∈ M)) r).Perm (bs'.flatten.filter λ v=>decide (v ∈ r)):=by
        rw[List.perm_ext_iff_of_nodup ((h.nd.sublist hr.sublist).filter _) ((List.nodup_append.mp nd2).1.filter _)]
        intro v
        rw[List.mem_filter,List.mem_filter]
        constructor
        . rintro⟨h1,h2⟩
          have h3:=pm.mem_iff.mp (sub r hr v h1)
          rcases List.mem_append.mp h3 with h3|h3
          . exact⟨h3,by simp[h1]⟩
          . simp[h3]at h2
        . rintro⟨h1,h2⟩
          exact⟨by simpa using h2,by simp[dis v h1]⟩
      rw[sm_perm pr,sm_perm pr]
      refine Iw hl bs' λ B hB=>?_
      have h1:=h.suf B (by simp[hB]) r hr
      have h2:=(List.pairwise_append.mp h.fall).2.2 B hB M (by simp)
      exact rtr (lp B (by simp[hB])) (Na λ x _=>Int.le_of_lt (hl x)) (Int.le_of_lt lM) h1 h2
    . intro r hr
      rw[oM]
      have pr:(r.filter λ v=>decide (v ∈ M)).Perm (M.filter λ v=>decide (v ∈ r)):=by
        rw[List.perm_ext_iff_of_nodup ((h.nd.sublist hr.sublist).filter _) ((List.nodup_append.mp nd2).2.1.filter _)]
        intro v
        rw[List.mem_filter,List.mem_filter]
        simp
        exact⟨λ h=>⟨h.2,h.1⟩,λ h=>⟨h.2,h.1⟩⟩
      rw[sm_perm pr,sm_perm pr]
      exact h.suf M (by simp) r hr
end
section
variable{up:Nat->Option Nat}{pos:Nat->Nat}{l w:Nat->Int}
inductive Cn(up:Nat->Option Nat):Nat->List Nat->Prop
  | nil (x:Nat):Cn up x []
  | cons {x y:Nat} {t:List Nat}:up y=some x->Cn up y t->Cn up x (y :: t)
theorem Sk(one:∀ a b c,up b=some a->up c=some a->b=c):∀ {t s:List Nat} {x:Nat},Ord up (x :: s) t->(∀ u ∈ s,∃ c ∈ x :: s,up c=some u)->(∀ v ∈ t,v ∉ x :: s)->t.Nodup->Cn up x t
  | [],_,x,_,_,_,_=>.nil x
  | y :: t,s,x,⟨⟨u,hu,e⟩,o⟩,hs,hd,nd=>by
    rw[List.nodup_cons]at nd
    have eu:u=x:=by
      rcases List.mem_cons.mp hu with h|h
      . exact h
      . obtain⟨c,hc,ec⟩:=hs u h
        have:=one u y c e ec
        subst this
        exact absurd hc (hd y (by simp))
    subst eu
    refine .cons e (Sk one o ?_ ?_ nd.2)
    . intro v hv
      rcases List.mem_cons.mp hv with rfl|hv
      . exact⟨y,by simp,e⟩
      . obtain⟨c,hc,ec⟩:=hs v hv
        exact⟨c,List.mem_cons_of_mem _ hc,ec⟩
    . intro v hv hm
      rcases List.mem_cons.mp hm with rfl|hm
      . exact nd.1 hv
      . exact hd v (by simp[hv]) hm
theorem Cn.pw{f:Nat->Nat}(hf:∀ v u,up v=some u->f u < f v):∀ {x:Nat} {t:List Nat},Cn up x t->(x :: t).Pairwise λ a b=>f a < f b
  | x,[],_=>by simp
  | x,y :: t,.cons e c=>by
    have ih:=c.pw hf
    have h1:=hf _ _ e
    refine List.pairwise_cons.mpr ⟨λ v hv=>?_,ih⟩
    rcases List.mem_cons.mp hv with rfl|hv
    . exact h1
    . have:=(List.pairwise_cons.mp ih).1 v hv;omega
theorem XU{S o:List Nat}{bs:List (List Nat)}(L:Line up pos l w S bs)(one:∀ a b c,up b=some a->up c=some a->b=c)(pm:o.Perm bs.flatten)(keep:∀ v u,up v=some u->o.idxOf u < o.idxOf v):Op l w bs o:=by
  have nd:o.Nodup:=pm.nodup_iff.mpr L.nd
  have ndB:∀ B ∈ bs,B.Nodup:=λ B hB=>by
    obtain⟨X,Y,rfl⟩:=List.append_of_mem hB
    have:=L.nd
    rw[List.flatten_append,List.flatten_cons]at this
    exact(List.nodup_append.mp (List.nodup_append.mp this).2.1).1
  have inO:∀ B ∈ bs,∀ v ∈ B,v ∈ o:=λ B hB v hv=>pm.mem_iff.mpr (List.mem_flatten.mpr ⟨B,hB,hv⟩)
  refine⟨pm,nd,L.fall,λ B hB r hr=>?_,λ B hB=>?_,λ B hB=>?_⟩
  . have h:=O4 (L.hold B hB) (p:=λ v=>decide (v ∉ r)) λ v hv pv u e hu=>?_
    . have e1:(B.filter λ v=>!decide (v ∉ r))=B.filter λ v=>decide (v ∈ r):=List.filter_congr λ v _=>by by_cases h:v ∈ r <;> simp[h]
      rw[e1]at h;exact h
    . have pv:v ∉ r:=of_decide_eq_true pv
      refine decide_eq_true λ hur=>?_
      obtain⟨X,rfl⟩:=hr
      have hv':v ∈ X:=(List.mem_append.mp (inO B hB v hv)).resolve_right pv
      have hu':u ∉ X:=λ h=>(List.nodup_append.mp nd).2.2 u h u hur rfl
      have k:=keep v u e
      rw[List.idxOf_append,List.idxOf_append,if_neg hu',if_pos hv']at k
      have:=List.idxOf_lt_length_iff.mpr hv'
      omega
  . obtain⟨h,t,eB,ho,_⟩:=(L.hold B hB).ex
    have n:=ndB B hB
    rw[eB,List.nodup_cons]at n
    have c:Cn up h t:=Sk one ho (by simp) (λ v hv hm=>by simp at hm;subst hm;exact n.1 hv) n.2
    have pw:=c.pw keep
    rw[<- eB]at pw
    have pf:(o.filter λ v=>decide (v ∈ B)).Perm B:=by
      rw[List.perm_ext_iff_of_nodup (nd.filter _) (ndB B hB)]
      intro v
      rw[List.mem_filter]
      simp
      exact inO B hB v
    have po:o.Pairwise λ a b=>o.idxOf a < o.idxOf b:=by
      rw[List.pairwise_iff_getElem]
      intro i j hi hj hij
      rw[nd.idxOf_getElem i hi,nd.idxOf_getElem j hj]
      exact hij
    exact pf.eq_of_pairwise (le:=λ a b=>o.idxOf a < o.idxOf b) (λ a b _ _ h1 h2=>by omega) (po.sublist List.filter_sublist) pw
  . obtain⟨_,_,e,_⟩:=(L.hold B hB).ex;rw[e];simp
end
end Fs
namespace Sm
noncomputable def sm(f:Nat->Int):List Nat->Int
  | []=>0
  | k :: r=>f k + sm f r
noncomputable def ps(g:Nat->Nat->Int):List Nat->Int
  | []=>0
  | k :: r=>sm (g k) r + ps g r
noncomputable def cst(l w:Nat->Int):List Nat->Int->Int->Int
  | [],_,f=>f
  | k :: r,e,f=>cst l w r (e + l k) (f + w k * (e + l k))
theorem Od(f g:Nat->Int):∀ ks,sm (λ k=>f k + g k) ks=sm f ks + sm g ks
  | []=>rfl
  | k :: r=>by simp only[sm];rw[Od f g r];omega
theorem SI{f g:Nat->Int}:∀ {ks:List Nat},(∀ k ∈ ks,f k <= g k)->sm f ks <= sm g ks
  | [],_=>Int.le_refl _
  | k :: r,h=>by
    have h1:=h k (by simp)
    have h2:=SI (f:=f) (g:=g) (ks:=r) λ x hx=>h x (by simp[hx])
    simp only[sm];omega
theorem sm_eq{f g:Nat->Int}:∀ {ks:List Nat},(∀ k ∈ ks,f k=g k)->sm f ks=sm g ks
  | [],_=>rfl
  | k :: r,h=>by
    have h1:=h k (by simp)
    have h2:=sm_eq (f:=f) (g:=g) (ks:=r) λ x hx=>h x (by simp[hx])
    simp only[sm];omega
theorem sm_perm(f:Nat->Int){xs ys:List Nat}(p:xs.Perm ys):sm f xs=sm f ys:=by
  induction p with
  | nil=>rfl
  | cons x _ ih=>simp only[sm,ih]
  | swap x y l=>simp only[sm];omega
  | trans _ _ a b=>rw[a,b]
theorem Ts{g:Nat->Nat->Int}(hg:∀ x y,g x y=g y x){xs ys:List Nat}(p:xs.Perm ys):ps g xs=ps g ys:=by
  induction p with
  | nil=>rfl
  | cons x q ih=>simp only[ps,ih,sm_perm _ q]
  | swap x y l=>simp only[ps,sm];rw[hg x y];omega
  | trans _ _ a b=>rw[a,b]
theorem ps_le{g h:Nat->Nat->Int}:∀ {ks:List Nat},(∀ x ∈ ks,∀ y ∈ ks,g x y <= h x y)->ps g ks <= ps h ks
  | [],_=>Int.le_refl _
  | k :: r,H=>by
    have h1:=SI (f:=g k) (g:=h k) (ks:=r) λ x hx=>H k (by simp) x (by simp[hx])
    have h2:=ps_le (g:=g) (h:=h) (ks:=r) λ x hx y hy=>H x (by simp[hx]) y (by simp[hy])
    simp only[ps];omega
theorem N2(g:Nat->Nat->Int)(x:Nat):∀ ks,ps g (ks ++ [x])=ps g ks + sm (λ k=>g k x) ks
  | []=>by simp[ps,sm]
  | k :: r=>by
    have e:∀ f:Nat->Int,∀ l:List Nat,sm f (l ++ [x])=sm f l + f x:=by
      intro f l
      induction l with
      | nil=>simp[sm]
      | cons y r ih=>simp only[List.cons_append,sm,ih];omega
    simp only[List.cons_append,ps,sm,e,N2 g x r];omega
theorem Pl(l w:Nat->Int):∀ (ks:List Nat) (e f:Int),cst l w ks e f=f + sm (λ k=>w k * (e + l k)) ks + ps (λ x y=>l x * w y) ks
  | [],e,f=>by simp[cst,sm,ps]
  | k :: r,e,f=>by
    simp only[cst]
    rw[Pl l w r]
    have e1:sm (λ y=>w y * (e + l k + l y)) r=sm (λ y=>w y * (e + l y)) r + sm (λ y=>l k * w y) r:=by
      rw[<- Od]
      refine sm_eq λ y _=>?_
      rw[show e + l k + l y=(e + l y) + l k by omega,Int.mul_add (w y) (e + l y) (l k),Int.mul_comm (w y) (l k)]
    rw[e1]
    simp only[sm,ps]
    omega
noncomputable def least(l w:Nat->Int)(c:Int)(n:Nat):Int:=sm (λ k=>w k * (c + l k)) (List.range n) + ps (λ x y=>min (l x * w y) (l y * w x)) (List.range n)
theorem least_le(l w:Nat->Int)(c:Int){n:Nat}{ks:List Nat}(p:ks.Perm (List.range n)):least l w c n <= cst l w ks c 0:=by
  rw[Pl,least,<- sm_perm _ p,<- Ts (λ x y=>Int.min_comm _ _) p]
  have:=ps_le (g:=λ x y=>min (l x * w y) (l y * w x)) (h:=λ x y=>l x * w y) (ks:=ks) λ x _ y _=>Int.min_le_left _ _
  omega
end Sm
namespace Fs
variable{l w:Nat->Int}
theorem Pm:∀ (o:List Nat) (e f:Int),Sm.cst l w o e f=f + Ct l w e o
  | [],e,f=>by simp[Sm.cst,Ct]
  | x :: r,e,f=>by
    rw[Sm.cst,Pm r,Ct];omega
theorem Ja(o:List Nat):Sm.cst l w o 0 0=Dc l w o:=by rw[Pm,Sj];simp
theorem Uw(f:Nat->Int)(o:List Nat):Sm f o.reverse=Sm f o:=sm_perm o.reverse_perm
theorem LW:∀ o:List Nat,Dc w l o.reverse=Dc l w o
  | []=>rfl
  | x :: r=>by
    rw[List.reverse_cons,Hg,LW r,Uw,Dc,Dc,Dc,Ay,E1]
    simp only[Int.mul_add,Int.add_zero,Int.mul_zero]
    rw[Int.mul_comm (Sm w r),Int.mul_comm (w x)]
    omega
theorem LH{f g:Nat->Int}:∀ {o:List Nat},(∀ k ∈ o,f k=g k)->Sm f o=Sm g o
  | [],_=>rfl
  | x :: r,h=>by rw[Ay,Ay,h x (by simp),LH λ k hk=>h k (by simp[hk])]
theorem Ig{l' w':Nat->Int}:∀ {o:List Nat},(∀ k ∈ o,l k=l' k/\w k=w' k)->Dc l w o=Dc l' w' o
  | [],_=>rfl
  | x :: r,h=>by
    rw[Dc,Dc,(h x (by simp)).1,(h x (by simp)).2,LH λ k hk=>(h k (by simp[hk])).2,Ig λ k hk=>h k (by simp[hk])]
noncomputable def Bf(o:List Nat)(u v:Nat):Prop:=∃ A C,o=A ++ v :: C/\u ∈ A
theorem Bf.idx{o:List Nat}{u v:Nat}(h:Bf o u v)(nd:o.Nodup):o.idxOf u < o.idxOf v:=by
  obtain⟨A,C,rfl,hu⟩:=h
  have hv:v ∉ A:=λ h=>(List.nodup_append.mp nd).2.2 v h v (by simp) rfl
  rw[List.idxOf_append,List.idxOf_append,if_pos hu,if_neg hv]
  have:=List.idxOf_lt_length_iff.mpr hu
  omega
theorem Bf.rev{o:List Nat}{u v:Nat}(h:Bf o u v):Bf o.reverse v u:=by
  obtain⟨A,C,rfl,hu⟩:=h
  obtain⟨A1,A2,rfl⟩:=List.append_of_mem hu
  exact⟨C.reverse ++ [v] ++ A2.reverse,A1.reverse,by simp,by simp⟩
theorem P7{up:Nat->Option Nat}:∀ {t s:List Nat} {v u:Nat},Ord up s t->v ∈ t->up v=some u->∃ A C,t=A ++ v :: C/\(u ∈ s ∨ u ∈ A)
  | x :: r,s,v,u,⟨⟨u',hu,e⟩,o⟩,hv,eu=>by
    by_cases hx:v=x
    . subst hx
      rw[e]at eu;cases eu
      exact⟨[],r,rfl,.inl hu⟩
    . have hv':v ∈ r:=by rcases List.mem_cons.mp hv with h|h;exact absurd h hx;exact h
      obtain⟨A,C,e1,h⟩:=P7 o hv' eu
      refine⟨x :: A,C,by rw[e1];rfl,?_⟩
      rcases h with h|h
      . rcases List.mem_cons.mp h with rfl|h
        . exact .inr (by simp)
        . exact .inl h
      . exact .inr (by simp[h])
theorem Nx{up:Nat->Option Nat}{pos:Nat->Nat}{S:List Nat}{bs:List (List Nat)}(L:Line up pos l w S bs)(hS:∀ a ∈ S,up a=none){v u:Nat}(hv:v ∈ bs.flatten)(e:up v=some u):Bf bs.flatten u v:=by
  obtain⟨B,hB,hvB⟩:=List.mem_flatten.mp hv
  obtain⟨X,Y,eb⟩:=List.append_of_mem hB
  obtain⟨h,t,eB,hp⟩:=L.par X B Y eb
  obtain⟨h',t',eB',ho,_⟩:=(L.hold B hB).ex
  rw[eB]at eB'
  obtain⟨rfl,rfl⟩:=List.cons.inj eB'
  rw[eb,List.flatten_append,List.flatten_cons,eB]
  rw[eB]at hvB
  rcases List.mem_cons.mp hvB with rfl|hvt
  . refine⟨X.flatten,t ++ Y.flatten,by simp,?_⟩
    rcases hp with hp|⟨u',hu,e'⟩
    . rw[hS v hp]at e;cases e
    . rw[e]at e';cases e';exact hu
  . obtain⟨A,C,et,hA⟩:=P7 ho hvt e
    refine⟨X.flatten ++ h :: A,C ++ Y.flatten,by rw[et];simp,?_⟩
    rcases hA with hA|hA
    . simp at hA;subst hA;simp
    . simp[hA]
end Fs
namespace T69
open PySem L2 Bd Bt Fs
noncomputable def lf(ws:List (Int × Int))(k:Nat):Int:=((ws[k]?).map (·.1)).getD 1
noncomputable def wf(ws:List (Int × Int))(k:Nat):Int:=((ws[k]?).map (·.2)).getD 0
theorem Gy{c:Int}{ws:List (Int × Int)}{k:Nat}(hk:k < ws.length):atI (((ws.map (wk c)).map Bj).map D.im) (k:Int)=some (wkD c (lf ws k,wf ws k)):=EI rfl (by simp[hk,lf,wf])
theorem G0{c:Int}{ws:List (Int × Int)}(W:WOk c ws){k:Nat}(hk:k < ws.length):1 <= lf ws k/\lf ws k <= 1000000/\0 <= wf ws k/\wf ws k <= 1000000:=by
  have:=W.each ws[k] (List.getElem_mem hk)
  simp[lf,wf,hk];omega
theorem WB{c:Int}{ws:List (Int × Int)}(W:WOk c ws)(k:Nat):0 < lf ws k:=by
  rcases Nat.lt_or_ge k ws.length with h|h
  . have:=(G0 W h).1;omega
  . simp[lf,h]
structure Bl(n:Nat)(B:List Nat):Prop where
  ne:B ≠ []
  le:B.length <= 8
  lt:∀ k ∈ B,k < n
theorem Ux{c:Int}{ws:List (Int × Int)}(W:WOk c ws):∀ (B:List Nat),(∀ k ∈ B,k < ws.length)->(B.length:Int) <= Sm (lf ws) B/\Sm (lf ws) B <= 1000000 * B.length/\0 <= Sm (wf ws) B/\Sm (wf ws) B <= 1000000 * B.length
  | [],_=>by simp[E1]
  | x :: r,h=>by
    have ih:=Ux W r λ k hk=>h k (by simp[hk])
    have:=G0 W (h x (by simp))
    rw[Ay,Ay]
    simp only[List.length_cons]
    omega
theorem K4{c:Int}{ws:List (Int × Int)}(W:WOk c ws){B:List Nat}(b:Bl ws.length B):1 <= Sm (lf ws) B/\Sm (lf ws) B <= 8000000/\0 <= Sm (wf ws) B/\Sm (wf ws) B <= 8000000:=by
  have:=Ux W B b.lt
  have:=b.le
  have:1 <= B.length:=List.length_pos_iff.mpr b.ne
  omega
local macro_rules | `(tactic| sizeOf_list_dec) => `(tactic| first | (with_reducible refine AH ?_; try dsimp only [List.set_cons_zero, List.set_cons_succ, List.map_cons, List.map_nil, List.cons_append, List.nil_append, List.replicate, Nat.reduceSub, Int.reduceToNat]) | with_reducible refine IM ?_ | with_reducible refine AM ?_ | with_reducible refine Aq ?_ | with_reducible refine B9 ?_ | with_reducible refine DI ?_ | with_reducible refine CO ?_ | with_reducible refine Cv ?_ | with_reducible refine Fj ?_ | with_reducible refine Je ?_ | with_reducible refine Cw ?_ | with_reducible refine A4 (d := _) rfl ?_ | with_reducible refine As ?_ | with_reducible refine AL ?_ | with_reducible refine Bu ?_ | with_reducible refine BA ?_ | with_reducible refine CF ?_ | with_reducible refine Io ?_ | with_reducible refine Cj ?_ | with_reducible refine GJ ?_ | with_reducible refine DR ?_ | with_reducible refine Jg ?_ | with_reducible refine CC ?_ | with_reducible refine Gu ?_ | with_reducible refine Ik ?_ | with_reducible refine KY ?_ | with_reducible refine B6 ?_ | with_reducible refine AB ?_ | with_reducible refine A6 ?_ | with_reducible refine Cy ?_ | with_reducible refine B8 ?_ | with_reducible refine FG ?_ | with_reducible refine Ka ?_ | with_reducible refine Ds ?_ | with_reducible refine NP ?_ | with_reducible refine DQ ?_ | with_reducible refine Dz ?_ | with_reducible refine Gv ?_ | with_reducible refine GI ?_ | with_reducible refine NN ?_ | with_reducible refine KZ ?_ | with_reducible refine NO ?_ | with_reducible refine Fk ?_ | with_reducible refine Gx ?_ | with_reducible refine Ks ?_ | with_reducible refine Gw ?_ | with_reducible refine Jf ?_ | with_reducible refine Hl ?_ | with_reducible refine ⟨_, rfl, ?_⟩ | refine Ah rfl (EJ _ _) ?_ | refine Ah rfl (En _ _ _) ?_ | refine Ah rfl (K5 _ _ _ _) ?_ | refine ⟨_, _, _, _, rfl, rfl, rfl, rfl, ?_⟩ | refine ⟨⟨_, rfl⟩, ?_⟩ | refine ⟨DW, ?_⟩ | refine ⟨Ed, ?_⟩ | refine ⟨M8, ?_⟩ | refine ⟨M7, ?_⟩ | refine ⟨DX, ?_⟩ | refine ⟨G9, ?_⟩ | with_reducible refine we_nilEN ?_)
theorem Xl{a':Int}{b:Nat}(hb:0 < b):WF CJ [.im (.int a'),.im (.int (b:Int))] [] λ d x=>d=.im (.int (Nat.gcd a'.natAbs b:Nat)):=by
  generalize ha:a'.natAbs=a
  unfold CJ
  refine BP rfl ?_
  repeat sizeOf_list_dec
  refine WP.eq (z:=.im (.int (a:Int))) (h:=[]) (by simp[M9];omega) ?_
  refine AH ?_
  change WS _ [some (.im (.int (a:Int))),some (.im (.int (b:Int)))] _ _
  refine AM (Kn (λ m ls hd=>∃ x y:Nat,m=y/\Nat.gcd x y=Nat.gcd a b/\ls=[some (.im (.int (x:Int))),some (.im (.int (y:Int)))]/\hd=[]) (n:=b) ⟨a,b,rfl,rfl,rfl,rfl⟩ ?_)
  rintro m ls hd ⟨x,y,rfl,hg,rfl,rfl⟩
  repeat sizeOf_list_dec
  by_cases hy:m=0
  . subst hy
    rw[if_neg (by simp)]
    repeat sizeOf_list_dec
    show D.im (.int (x:Int))=_
    rw[<- hg,Nat.gcd_zero_right]
  . rw[if_pos (by simp;omega)]
    repeat sizeOf_list_dec
    refine Uk (show CV (m:Int) by unfold CV;omega) ?_
    repeat sizeOf_list_dec
    refine⟨rfl,?_⟩
    exact⟨x % m,Nat.mod_lt _ (by omega),m,x % m,rfl,by rw[<- hg,Nat.gcd_comm x m,Nat.gcd_rec m x,Nat.gcd_comm],by simp,rfl⟩
theorem JV{a:Int}{b:Nat}(hb:0 < b)(hB:b <= 1000000000000000):WF CW [.im (.int a),.im (.int (b:Int))] [] λ d x=>d=.im (.tup [.int (a / (Nat.gcd a.natAbs b:Nat)),.int ((b:Int) / (Nat.gcd a.natAbs b:Nat))]):=by
  have hs:0 < Nat.gcd a.natAbs b:=Nat.gcd_pos_of_pos_right _ hb
  have hs2:Nat.gcd a.natAbs b <= b:=Nat.gcd_le_right _ hb
  unfold CW
  refine BP rfl ?_
  repeat sizeOf_list_dec
  refine⟨(λ h=>by simp at h;omega),λ _=>CO (AH ?_)⟩
  refine AM (Aq (AV ?_))
  repeat sizeOf_list_dec
  refine⟨by simp,(Xl hb).mono ?_⟩
  rintro d x rfl
  refine⟨_,rfl,?_⟩
  have dv:JZ ((Nat.gcd a.natAbs b:Nat):Int):=⟨by omega,by omega⟩
  repeat sizeOf_list_dec
  refine Kr dv ?_
  repeat sizeOf_list_dec
  refine Kr dv ?_
  repeat sizeOf_list_dec
  rfl
theorem O8{a b:Nat}(hb:0 < b)(hB:b <= 100000000):WF CW [.im (.int (a:Int)),.im (.int (b:Int))] [] λ d x=>∃ s p q:Nat,0 < s/\a=p * s/\b=q * s/\d=.im (.tup [.int (p:Int),.int (q:Int)]):=by
  have hs:0 < Nat.gcd a b:=Nat.gcd_pos_of_pos_right _ hb
  obtain⟨p,hp⟩:=Nat.gcd_dvd_left a b
  obtain⟨q,hq⟩:=Nat.gcd_dvd_right a b
  refine(JV (a:=(a:Int)) hb (by omega)).mono ?_
  rintro d x rfl
  rw[Int.natAbs_natCast]
  refine⟨Nat.gcd a b,p,q,hs,by rw[Nat.mul_comm];exact hp,by rw[Nat.mul_comm];exact hq,?_⟩
  have e1:(a:Int) / ((Nat.gcd a b:Nat):Int)=(p:Int):=by
    have:a / Nat.gcd a b=p:=Nat.div_eq_of_eq_mul_right hs hp
    rw[<- this];rfl
  have e2:(b:Int) / ((Nat.gcd a b:Nat):Int)=(q:Int):=by
    have:b / Nat.gcd a b=q:=Nat.div_eq_of_eq_mul_right hs hq
    rw[<- this];rfl
  rw[e1,e2]
structure Rat'(w l:Int)(r:Int × Int):Prop where
  ex:∃ s p q:Nat,0 < s/\w=((p * s:Nat):Int)/\l=((q * s:Nat):Int)/\r=((p:Int),(q:Int))
theorem Lb{w l w' l':Int}{r r':Int × Int}(h:Rat' w l r)(h':Rat' w' l' r'):(r.1 * r'.2 < r'.1 * r.2) ↔ w * l' < w' * l:=by
  obtain⟨s,p,q,hs,rfl,rfl,rfl⟩:=h.ex
  obtain⟨s',p',q',hs',rfl,rfl,rfl⟩:=h'.ex
  dsimp only
  have e1:((p * s:Nat):Int) * ((q' * s':Nat):Int)=(p * q':Int) * ((s * s':Nat):Int):=by
    push_cast;rw[Int.mul_assoc,Int.mul_assoc,Int.mul_left_comm (s:Int)]
  have e2:((p' * s':Nat):Int) * ((q * s:Nat):Int)=(p' * q:Int) * ((s * s':Nat):Int):=by
    push_cast;rw[Int.mul_assoc,Int.mul_assoc,Int.mul_left_comm (s':Int),Int.mul_comm (s':Int) (s:Int)]
  rw[e1,e2]
  have hp:(0:Int) < ((s * s':Nat):Int):=by have:=Nat.mul_pos hs hs';omega
  constructor
  . intro h;exact Int.mul_lt_mul_of_pos_right h hp
  . intro h;exact Int.lt_of_mul_lt_mul_right h (Int.le_of_lt hp)
noncomputable abbrev B0(r:Int × Int):D:=Aj r
theorem PU{r r':Int × Int}(b1:∀ j,CU r.1 j)(b2:∀ j,CU r'.1 j):WF EC [B0 r,B0 r'] [] λ d x=>d=.im (.bl (decide (r.1 * r'.2 < r'.1 * r.2))):=by
  unfold EC
  refine BP rfl ?_
  refine B9 (AL (AL (AL (A4 rfl (As (Ah rfl (EJ _ _) ?_))))))
  refine AL (A4 rfl (As (Ah rfl (En _ _ _) (Dy (b1 _) ?_))))
  refine AL (AL (A4 rfl (As (Ah rfl (EJ _ _) ?_))))
  refine AL (A4 rfl (As (Ah rfl (En _ _ _) (Dy (b2 _) (GI ?_)))))
  rfl
theorem UG{r r':Int × Int}(a1:0 <= r.1/\r.1 <= 8000000)(a2:1 <= r.2/\r.2 <= 8000000)(b1:0 <= r'.1/\r'.1 <= 8000000)(b2:1 <= r'.2/\r'.2 <= 8000000):WF GG [B0 r,B0 r'] [] λ d x=>∃ p:Int × Int,d=B0 p:=by
  have m1:∀ j,CU r.1 j:=λ j=>Bb (by omega) (by omega)
  have m2:∀ j,CU r.2 j:=λ j=>Bb (by omega) (by omega)
  have m3:∀ j,CU r'.1 j:=λ j=>Bb (by omega) (by omega)
  unfold GG
  refine BP rfl ?_
  refine B9 (AV (A6 (AL (AL (AL (A4 rfl (As (Ah rfl (EJ _ _) ?_))))))))
  refine AL (A4 rfl (As (Ah rfl (En _ _ _) (Dy (m1 _) ?_))))
  refine AL (AL (A4 rfl (As (Ah rfl (EJ _ _) ?_))))
  refine AL (A4 rfl (As (Ah rfl (En _ _ _) (Dy (m3 _) (Gv ?_)))))
  refine A6 (AL (AL (A4 rfl (As (Ah rfl (En _ _ _) ?_)))))
  refine AL (A4 rfl (As (Ah rfl (En _ _ _) (Dy (m2 _) (AB ⟨by simp,?_⟩)))))
  have h1:r.2 * r'.2 <= 8000000 * 8000000:=Int.mul_le_mul a2.2 b2.2 (by omega) (by omega)
  have h2:0 < r.2 * r'.2:=Int.mul_pos (by omega) (by omega)
  obtain⟨b,eb⟩:∃ b:Nat,r.2 * r'.2=(b:Int):=⟨(r.2 * r'.2).toNat,by omega⟩
  rw[eb]
  refine(JV (by omega) (by omega)).mono ?_
  rintro d x rfl
  exact⟨_,rfl,(_,_),rfl⟩
theorem pre{p:Nat->Prop}[DecidablePred p]:∀ {row:List Nat},row.Pairwise (λ x y=>p y->p x)->(∀ x ∈ row.take (row.filter λ x=>decide (p x)).length,p x)/\∀ x ∈ row.drop (row.filter λ x=>decide (p x)).length,¬ p x
  | [],_=>by simp
  | x :: r,h=>by
    rw[List.pairwise_cons]at h
    by_cases hx:p x
    . have ih:=pre h.2
      rw[List.filter_cons,if_pos (by simpa using hx)]
      simp only[List.length_cons,List.take_succ_cons,List.drop_succ_cons]
      refine⟨λ y hy=>?_,ih.2⟩
      rcases List.mem_cons.mp hy with rfl|hy
      . exact hx
      . exact ih.1 y hy
    . have hn:∀ y ∈ r,¬ p y:=λ y hy q=>hx (h.1 y hy q)
      have:((x :: r).filter λ x=>decide (p x))=[]:=by
        refine List.filter_eq_nil_iff.mpr λ y hy=>?_
        rcases List.mem_cons.mp hy with rfl|hy
        . simpa using hx
        . simpa using hn y hy
      rw[this]
      refine⟨by simp,λ y hy=>?_⟩
      have hy:y ∈ x :: r:=by simpa using hy
      rcases List.mem_cons.mp hy with rfl|hy
      . exact hx
      . exact hn y hy
structure Rs(n:Nat)(fl fw:Nat->Int):Prop where
  n8:n <= 8
  b:∀ k,k < n->1 <= fl k/\fl k <= 8000000/\0 <= fw k/\fw k <= 8000000
section
variable{n:Nat}{fl fw:Nat->Int}
noncomputable abbrev le(fl fw:Nat->Int)(x y:Nat):Prop:=fw y * fl x <= fw x * fl y
noncomputable abbrev lE(fl fw:Nat->Int)(x y:Nat):Prop:=le fl fw x y/\(le fl fw y x->x < y)
theorem WN(W:Rs n fl fw){row:List Nat}{k:Nat}(hk:k < n)(pm:row.Perm (List.range k))(pw:row.Pairwise (lE fl fw)) :
    (row.take (row.filter λ x=>decide (le fl fw x k)).length ++ k :: row.drop (row.filter λ x=>decide (le fl fw x k)).length).Perm (List.range (k + 1))/\(row.take (row.filter λ x=>decide (le fl fw x k)).length ++ k :: row.drop (row.filter λ x=>decide (le fl fw x k)).length).Pairwise (lE fl fw):=by
  have hin:∀ x ∈ row,x < k:=λ x hx=>by simpa using pm.mem_iff.mp hx
  have P:=pre (p:=λ x=>le fl fw x k) (row:=row) (List.Pairwise.imp_of_mem (λ {x y} hx hy h q=>by
    have b1:=W.b x (by have:=hin x hx;omega);have b2:=W.b y (by have:=hin y hy;omega);have b3:=W.b k hk
    exact rtr (by omega) (by omega) (by omega) h.1 q) pw)
  generalize (row.filter λ x=>decide (le fl fw x k)).length=p at *
  constructor
  . have h1:(row.take p ++ k :: row.drop p).Perm (k :: row):=by
      have:=List.perm_middle (a:=k) (l₁:=row.take p) (l₂:=row.drop p)
      rwa [List.take_append_drop]at this
    refine h1.trans ?_
    rw[List.range_succ]
    exact((List.Perm.cons k pm).trans (List.perm_append_singleton k _).symm)
  . have hs:(row.take p ++ row.drop p).Pairwise (lE fl fw):=by rw[List.take_append_drop];exact pw
    rw[List.pairwise_append]at hs ⊢
    refine⟨hs.1,List.pairwise_cons.mpr ⟨λ y hy=>?_,hs.2.1⟩,λ x hx y hy=>?_⟩
    . have:=P.2 y hy
      refine⟨?_,λ q=>absurd q this⟩
      unfold le at this ⊢
      omega
    . rcases List.mem_cons.mp hy with rfl|hy
      . exact⟨P.1 x hx,λ _=>hin x (List.mem_of_mem_take hx)⟩
      . exact hs.2.2 x hx y hy
theorem Xo(p:Nat->Prop)[DecidablePred p](L:List Nat):(L.filterMap λ a=>if p a then some (D.im (.int (a:Int)))else none).length=(L.filter λ a=>decide (p a)).length:=by
  induction L with
  | nil=>rfl
  | cons x r ih=>
    rw[List.filterMap_cons,List.filter_cons]
    by_cases h:p x
    . simp[h,ih]
    . simp[h,ih]
theorem sv{hd:Hd}{m:Nat}{ds:List D}(e:hd[m]? = some (.lst ds)):B2 hd (.mu m)=some ds:=by simp[B2,Ad,Az,e]
theorem hl{hd g:Hd}{m:Nat}{o:MO}(e:hd[m]? = some o):(hd ++ g)[m]? = some o:=by rw[List.getElem?_append_left (List.getElem?_eq_some_iff.mp e).1];exact e
theorem hn{hd g:Hd}{o:MO}:(hd ++ o :: g)[hd.length]? = some o:=by simp
inductive IF(rs:List (Int × Int))(E:List D)(m:Nat)(hd0:Hd)(fl fw:Nat->Int):List D->Ls->Hd->Prop
  | mk (row:List Nat) (j:Nat) (z2 z3:Option D) (hj:j <= E.length) (pm:row.Perm (List.range j)) (pw:row.Pairwise (lE fl fw)):IF rs E m hd0 fl fw (E.drop j) [some (.mu m),some (.mu hd0.length),z2,z3] (hd0 ++ [.lst (Ag row)])
theorem Pa(W:Rs n fl fw){rs:List (Int × Int)}(hr:rs.length=n)(R:∀ k,(hk:k < rs.length)->Rat' (fw k) (fl k) rs[k]){hd:Hd}{m:Nat}(em:hd[m]? = some (.lst (rs.map B0))) :
    WF DZ [.mu m] hd λ d x=>∃ row:List Nat,d=.mu hd.length/\x=hd ++ [.lst (Ag row)]/\row.Perm (List.range n)/\row.Pairwise (lE fl fw):=by
  have n8:=W.n8
  have rb:∀ k (hk:k < rs.length) j,CU rs[k].1 j:=λ k hk j=>by
    obtain⟨s,p,q,hs,e1,e2,e3⟩:=(R k hk).ex
    have b:=W.b k (by omega)
    have h2:p <= p * s:=Nat.le_mul_of_pos_right _ hs
    rw[e3]
    exact Bb (by dsimp only;omega) (by dsimp only;omega)
  unfold DZ
  refine BP rfl ?_
  refine AM (Aq (BA (Cy (AB ⟨DX,AH ?_⟩))))
  refine AM (Cw (Mk (DQ (A4 rfl ⟨m,_,rfl,hl em,?_⟩))))
  dsimp only
  generalize hE:((rs.map B0).zipIdx.map λ q=>Ai [.im (.int (q.2:Int)),q.1])=E
  have El:E.length=rs.length:=by rw[<- hE];simp
  have Ea:∀ j (hj:j < E.length),E[j]=.im (.tup [.int (j:Int),.tup [.int rs[j].1,.int rs[j].2]]):=by
    intro j hj
    subst hE
    simp[B0,Aj,Ai,BZ]
  have gk:∀ row:List Nat,GOk (hd ++ [.lst (Ag row)]) [(m,rs.map B0)]:=λ row p hp=>by simp at hp;subst hp;exact hl em
  refine DP (IF rs E m hd fl fw) (.mk [] 0 none none (by omega) (by simp) (by simp)) ?_ ?_
  . intro d r ls hd' hI
    generalize er:d :: r=er' at hI
    cases hI with
    | mk row j z2 z3 hj pm pw=>
    have hj':j < E.length:=by
      rcases Nat.lt_or_ge j E.length with h|h
      . exact h
      . rw[List.drop_eq_nil_of_le h]at er;cases er
    rw[List.drop_eq_getElem_cons hj',Ea j hj']at er
    obtain⟨rfl,rfl⟩:=List.cons.inj er
    have hjr:j < rs.length:=by omega
    have rl:row.length=j:=by simpa using pm.length_eq
    have hin:∀ x ∈ row,x < j:=λ x hx=>by simpa using pm.mem_iff.mp hx
    refine⟨[some (.mu m),some (.mu hd.length),some (.im (.int (j:Int))),some (B0 rs[j])],rfl,?_⟩
    refine DI (GJ (A4 rfl ⟨⟨Ag row,by simp[Az]⟩,A6 (CF (B8 (DQ (A4 rfl ⟨hd.length,_,rfl,hn,?_⟩))))⟩))
    refine⟨An (by simp;omega),?_⟩
    refine C1 (λ k:Nat=>D.im (.int (k:Int))) (λ x=>if le fl fw x j then some (.im (.int (x:Int)))else none) (λ _ ls=>∃ x,ls=[some x,some (.mu m),some (B0 rs[j])]) _ (by intro p hp;simp at hp;subst hp;exact hn) ?_ ?_
    . rintro x hx ls hls
      have hxr:x < rs.length:=by have:=hin x hx;omega
      refine⟨[some (.im (.int (x:Int))),some (.mu m),some (B0 rs[j])],by rcases hls with rfl|⟨_,x,rfl⟩ <;> rfl,⟨_,rfl⟩,?_⟩
      refine Gu (Gs (AV (A6 (AL (A4 rfl (A4 rfl (Ah (ds:=rs.map B0) (e:=B0 rs[x]) (sv (hl em)) (EI rfl (by simp[hxr])) ?_)))))))
      refine A6 (A4 rfl (AB ⟨by simp[B0,Aj],(PU (rb x hxr) (rb j hjr)).mono ?_⟩))
      rintro d y rfl
      refine⟨_,rfl,_,rfl,rfl,?_⟩
      have q:=Lb (R x hxr) (R j hjr)
      have q2:¬ (fw x * fl j < fw j * fl x) ↔ le fl fw x j:=by unfold le;omega
      by_cases h:le fl fw x j
      . rw[if_pos (by simp;have:=q2.mpr h;have:=mt q.mp this;omega)]
        exact⟨_,if_pos h,A4 rfl ⟨rfl,rfl⟩⟩
      . rw[if_neg (by simp;have:=mt q2.mp h;have:=q.mpr (by omega);omega)]
        exact if_neg h
    refine⟨_,rfl,?_⟩
    rw[Xo]
    refine A6 (A4 rfl (AB ?_))
    have ff:=List.length_filter_le (λ x=>decide (le fl fw x j)) row
    refine OQ (ds:=Ag row) hn (by omega) (by simp;omega) (Cs (by simp;omega)) ?_
    obtain⟨a1,a2⟩:=WN W (by omega) pm pw
    refine⟨?_,?_⟩
    . intro p hp;simp at hp;subst hp
      rw[List.set_append_right _ _ (Nat.le_refl _)]
      exact hl em
    . have e2:(hd ++ [MO.lst (Ag row)]).set hd.length (.lst ((Ag row).take (((row.filter λ a=>decide (le fl fw a j)).length:Int)).toNat ++ D.im (.int (j:Int)) :: (Ag row).drop (((row.filter λ a=>decide (le fl fw a j)).length:Int)).toNat))=hd ++ [.lst (Ag (row.take (row.filter λ x=>decide (le fl fw x j)).length ++ j :: row.drop (row.filter λ x=>decide (le fl fw x j)).length))]:=by
        simp[Ag]
      rw[e2]
      exact .mk _ (j + 1) _ _ (by omega) a1 a2
  . intro ls hd' hI
    generalize er:([]:List D)=er' at hI
    cases hI with
    | mk row j z2 z3 hj pm pw=>
    have hj':j=n:=by
      rcases Nat.lt_or_ge j E.length with h|h
      . rw[List.drop_eq_getElem_cons h]at er;cases er
      . omega
    subst hj'
    refine AH (B9 (A4 rfl ?_))
    exact⟨row,rfl,rfl,pm,pw⟩
end
theorem Il(c:Int)(ws:List (Int × Int)):((ws.map (wk c)).map Bj).map D.im=ws.map (wkD c):=by simp
theorem S9{c:Int}{ws:List (Int × Int)}(W:WOk c ws):WF DY [.im (Av c ws)] [] λ d x=>d=.im (.int c):=by
  have n1:=W.n1;have n8:=W.n8
  unfold DY
  refine BP rfl ?_
  refine AM (Aq (AV (A6 (A4 rfl (AB ⟨by simp,?_⟩)))))
  have S:WF DG [.im (Av c ws)] [] λ d x=>d=.im (.int c):=by
    unfold DG
    refine BP rfl ?_
    refine AM (Aq (AL (AL (A4 rfl (As (Ah rfl (Gy (k:=0) (by omega)) ?_))))))
    refine As (Ah rfl (En _ _ _) (AH ?_))
    refine AM (Cv (Gs (CF (B8 (Ds (A4 rfl ⟨_,rfl,?_⟩))))))
    rw[Il]
    refine⟨An (by simp;omega),?_⟩
    refine C1 (wkD c) (λ _=>some (.im (.bl true))) (λ _ ls=>∃ x,ls=[some x,some (.im (.int c))]) _ (Ab _) ?_ ?_
    . rintro p hp ls hls
      refine⟨[some (wkD c p),some (.im (.int c))],by rcases hls with rfl|⟨_,x,rfl⟩ <;> rfl,⟨_,rfl⟩,B6 ⟨rfl,?_⟩⟩
      rw[if_pos rfl]
      refine⟨_,rfl,AL (AL (A4 rfl (As (Ah rfl (En _ _ _) (A4 rfl (Fk ⟨rfl,?_⟩))))))⟩
      simp
    have e:(ws.filterMap λ _=>some (D.im (.bl true)))=blD (ws.map λ _=>true):=by simp[blD]
    rw[e]
    refine⟨_,by rw[Rv,MV];rfl,_,rfl,?_⟩
    refine⟨λ _=>?_,(λ h=>by simp at h)⟩
    exact B9 (A4 rfl rfl)
  refine S.mono ?_
  rintro d x rfl
  refine⟨_,rfl,AH ?_⟩
  refine AM (Cv (CC ?_))
  refine WP.eq (z:=.im (.bl false)) (h:=[]) (by simp[Ly]) ⟨_,rfl,(λ h=>by cases h),λ _=>CO (AH ?_)⟩
  exact B9 (A4 rfl rfl)
theorem Qu{c:Int}{ws:List (Int × Int)}(W:WOk c ws):WF Ba [.im (Av c ws),.im (.str "ends")] [] λ d x=>d=.im .non:=by
  have n8:=W.n8
  unfold Ba
  refine BP rfl ?_
  refine Cv (Gs (CF (B8 (Ds (A4 rfl ⟨_,rfl,?_⟩)))))
  rw[Il]
  refine⟨An (by simp;omega),?_⟩
  refine C1 (wkD c) (λ _=>some (.im (.bl false))) (λ _ ls=>∃ x,ls=[some x,some (.im (.str "ends"))]) _ (Ab _) ?_ ?_
  . rintro p hp ls hls
    refine⟨[some (wkD c p),some (.im (.str "ends"))],by rcases hls with rfl|⟨_,x,rfl⟩ <;> rfl,⟨_,rfl⟩,B6 ⟨rfl,?_⟩⟩
    rw[if_pos rfl]
    refine⟨_,rfl,AL (AL (AL (A4 rfl (As (Ah rfl (K5 _ _ _ _) (As (Ah rfl (EJ _ _) (A4 rfl (Gw ⟨rfl,?_⟩)))))))))⟩
    simp
  have e:(ws.filterMap λ _=>some (D.im (.bl false)))=blD (ws.map λ _=>false):=by simp[blD]
  rw[e]
  refine⟨_,by rw[Ru,MV];rfl,_,rfl,?_⟩
  exact⟨(λ h=>by simp at h),λ _=>CO rfl⟩
theorem Im{c:Int}{ws:List (Int × Int)}(W:WOk c ws):WF BH [.im (Av c ws)] [] λ d x=>d=.im (.int c):=by
  unfold BH
  refine BP rfl ?_
  refine AM (Aq (AV (A6 (A4 rfl (AB ⟨by simp,(S9 W).mono ?_⟩)))))
  rintro d x rfl
  refine⟨_,rfl,AH ?_⟩
  refine AM (DI (AV (A6 (A4 rfl (A6 (As (AB ⟨by simp,(Qu W).mono ?_⟩)))))))
  rintro d x rfl
  exact⟨_,rfl,AH (B9 (A4 rfl rfl))⟩
theorem Ku(c:Int)(p:Int × Int):WF Cb [wkD c p] [] λ d x=>d=.im (.int p.2):=by
  unfold Cb
  refine BP rfl ?_
  refine B9 (AL (AL (A4 rfl (As (Ah rfl (K5 _ _ _ _) ?_)))))
  refine OS (As ⟨_,rfl,?_⟩)
  refine Ah (ds:=[.im (.str "ends"),.im (.int p.2)]) (e:=.im (.int p.2)) rfl ?_ rfl
  rfl
theorem M2(f:Nat->Int)(B:List Nat):Em (B.map λ k=>D.im (.int (f k)))=some (.im (.int (Sm f B))):=by
  have:(B.map λ k=>D.im (.int (f k)))=(B.map f).map λ i=>D.im (.int i):=by simp
  rw[this]
  unfold Em
  rw[Hc]
  rfl
theorem Fw(B:List Nat):(B.map λ k:Nat=>I.int (k:Int)).map D.im=B.map λ k:Nat=>D.im (.int (k:Int)):=by simp
theorem ND(f:Nat->D)(B:List Nat):(B.filterMap λ k=>some (f k))=B.map f:=by simp
theorem Rp{c:Int}{ws:List (Int × Int)}(W:WOk c ws){B:List Nat}(b:Bl ws.length B):WF Do [.im (Av c ws),.im (CM B)] [] λ d x=>d=.im (.int (Sm (lf ws) B)):=by
  have:=b.le
  unfold Do
  refine BP rfl ?_
  refine B9 (CF (B8 (Ds (A4 rfl ⟨_,rfl,?_⟩))))
  rw[Fw]
  refine⟨An (by simp;omega),?_⟩
  refine C1 (xs:=B) (λ k:Nat=>D.im (.int (k:Int))) (λ k=>some (.im (.int (lf ws k)))) (λ _ ls=>∃ x,ls=[some x,some (.im (Av c ws))]) _ (Ab _) ?_ ?_
  . rintro x hx ls hls
    refine⟨[some (.im (.int (x:Int))),some (.im (Av c ws))],by rcases hls with rfl|⟨_,x,rfl⟩ <;> rfl,⟨_,rfl⟩,B6 ⟨rfl,?_⟩⟩
    rw[if_pos rfl]
    exact⟨_,rfl,AL (AL (A4 rfl (A4 rfl (Ah rfl (Gy (b.lt x hx)) (As (Ah rfl (EJ _ _) ⟨rfl,rfl⟩))))))⟩
  . rw[ND]
    exact⟨_,M2 _ _,rfl⟩
theorem Fr{c:Int}{ws:List (Int × Int)}(W:WOk c ws){B:List Nat}(b:Bl ws.length B):WF BR [.im (Av c ws),.im (CM B)] [] λ d x=>∃ r,d=B0 r/\Rat' (Sm (wf ws) B) (Sm (lf ws) B) r:=by
  have bb:=K4 W b;have:=b.le
  unfold BR
  refine BP rfl ?_
  refine B9 (AV (A6 (CF (B8 (Ds (A4 rfl ⟨_,rfl,?_⟩))))))
  rw[Fw]
  refine⟨An (by simp;omega),?_⟩
  refine C1 (xs:=B) (λ k:Nat=>D.im (.int (k:Int))) (λ k=>some (.im (.int (wf ws k)))) (λ _ ls=>∃ x,ls=[some x,some (.im (Av c ws))]) _ (Ab _) ?_ ?_
  . rintro x hx ls hls
    refine⟨[some (.im (.int (x:Int))),some (.im (Av c ws))],by rcases hls with rfl|⟨_,x,rfl⟩ <;> rfl,⟨_,rfl⟩,B6 ⟨rfl,?_⟩⟩
    rw[if_pos rfl]
    refine⟨_,rfl,AV (A6 (AL (A4 rfl (A4 rfl (Ah rfl (Gy (b.lt x hx)) (AB ⟨by simp[wkD,Bj],(Ku c _).mono ?_⟩))))))⟩
    rintro d y rfl
    exact⟨_,rfl,rfl,rfl⟩
  rw[ND]
  refine⟨_,M2 _ _,?_⟩
  refine A6 (AV (A6 (A4 rfl (A6 (A4 rfl (AB ⟨by simp,(Rp W b).mono ?_⟩))))))
  rintro d x rfl
  refine⟨_,rfl,AB ⟨by simp,?_⟩⟩
  obtain⟨wn,hwn⟩:∃ wn:Nat,Sm (wf ws) B=(wn:Int):=⟨(Sm (wf ws) B).toNat,by omega⟩
  obtain⟨ln,hln⟩:∃ ln:Nat,Sm (lf ws) B=(ln:Int):=⟨(Sm (lf ws) B).toNat,by omega⟩
  rw[hwn,hln]
  refine(O8 (a:=wn) (b:=ln) (by omega) (by omega)).mono ?_
  rintro d x ⟨s,p,q,hs,e1,e2,rfl⟩
  exact⟨_,rfl,((p:Int),(q:Int)),rfl,⟨s,p,q,hs,by rw[e1],by rw[e2],rfl⟩⟩
noncomputable abbrev prI(q:Nat × Nat):I:=.tup [.int (q.1:Int),.int (q.2:Int)]
noncomputable abbrev fI(P:List (Nat × Nat)):I:=.tup (P.map prI)
noncomputable abbrev Ac(B:List Nat):D:=.im (CM B)
theorem Mi{is js:List I}{hd:Hd}{QE:D->Hd->Prop}(h0:is ≠ [])(h1:is.length + js.length <= 100)(q:QE (.im (.tup (is ++ js))) hd):WP (BI (.im (.tup is)) (.im (.tup js)) hd) QE:=by
  have cat:Sl (is.map D.im) (js.map D.im):=⟨by simpa using h0,An (by simp;omega)⟩
  refine WP.eq (z:=.im (.tup (is ++ js))) (h:=hd) ?_ q
  show(match Jz (.im (.tup is)) (.im (.tup js)) hd with|some z=>some z|none=>Gb (.im (.tup is)) (.im (.tup js)) hd)=_
  rw[show Jz (.im (.tup is)) (.im (.tup js)) hd=none from rfl]
  unfold Gb
  rw[show Ad (.im (.tup is))=some (is.map D.im)from rfl,show Ad (.im (.tup js))=some (js.map D.im)from rfl,Option.bind_some,Option.bind_some,if_pos cat,<- List.map_append,CZ]
theorem OV{ma mb:ME}{ls:Ls}{hd:Hd}{QA:List D->Hd->Prop}(h:WE ma ls hd λ d x=>WE mb ls x λ e y=>∃ i j xs ys,d=.mu i/\e=.mu j/\y[i]? = some (.lst xs)/\y[j]? = some (.lst ys)/\C0 (xs.length + ys.length)/\QA (xs ++ ys) y):WA (Ju ma mb) ls hd QA:=by
  obtain⟨d,x,e1,e,y,e2,i,j,xs,ys,rfl,rfl,e3,e4,c,q⟩:=h
  exact⟨_,_,by simp only[Ju,e1,Option.bind_some,e2,e3,e4,c,if_true],q⟩
theorem Uj{i:Nat}{g:Int->Int->Int}{m:ME}{ls:Ls}{hd:Hd}{x:Int}{Q:Fl->Hd->Prop}(e:ls[i]? = some (some (.im (.int x))))(h:WE m ls hd λ d y=>∃ k,d=.im (.int k)/\Q (.nx (ls.set i (some (.im (.int (g x k)))))) y):WS (Jv i g m) ls hd Q:=by
  obtain⟨d,y,e1,k,rfl,q⟩:=h
  exact⟨_,_,by unfold Jv;rw[e];simp only[e1,Option.bind_some],q⟩
theorem Wm(xs:List D)(k:Nat):EH xs none (some (k:Int))=xs.take k:=by
  unfold EH
  rw[HT.sIx_none,HT.sIx_nat,Nat.sub_zero,List.drop_zero]
  by_cases h:k <= xs.length
  . rw[Nat.min_eq_left h]
  . rw[Nat.min_eq_right (by omega),List.take_length,List.take_of_length_le (by omega)]
theorem Wn(xs:List D)(k:Nat):EH xs (some (k:Int)) none=xs.drop k:=by
  unfold EH
  rw[HT.sIx_none,HT.sIx_nat]
  by_cases h:k <= xs.length
  . rw[Nat.min_eq_left h,List.take_of_length_le (by simp)]
  . rw[Nat.min_eq_right (by omega),List.drop_length,List.drop_eq_nil_of_le (by omega)];simp
structure Fo(n:Nat)(P:List (Nat × Nat))(up:Nat->Option Nat)(pos:Nat->Nat):Prop where
  n8:n <= 8
  lt:∀ q ∈ P,q.1 < n/\q.2 < n
  nd:(P.map (·.2)).Nodup
  hup:∀ a b,up b=some a ↔ (a,b) ∈ P
  dn:∀ v u,up v=some u->pos u < pos v
  p8:∀ v,v < n->pos v < 8
structure SOk(n:Nat)(up:Nat->Option Nat)(S:List Nat):Prop where
  nd:S.Nodup
  lt:∀ a ∈ S,a < n
  same:∃ o,∀ a ∈ S,up a=o
noncomputable def ch(P:List (Nat × Nat))(a:Nat):List Nat:=P.filterMap λ q=>if q.1=a then some q.2 else none
theorem ch_mem{P:List (Nat × Nat)}{a b:Nat}:b ∈ ch P a ↔ (a,b) ∈ P:=by
  unfold ch
  rw[List.mem_filterMap]
  constructor
  . rintro⟨⟨x,y⟩,h,e⟩
    by_cases q:x=a
    . subst q;simp at e;subst e;exact h
    . simp[q]at e
  . intro h;exact⟨_,h,by simp⟩
theorem Wu(P:List (Nat × Nat))(a:Nat):(ch P a).Sublist (P.map (·.2)):=by
  induction P with
  | nil=>exact .slnil
  | cons q r ih=>
    unfold ch at ih ⊢
    rw[List.filterMap_cons]
    by_cases e:q.1=a
    . simp only[e,if_true,List.map_cons];exact ih.cons₂ _
    . simp only[e,if_false,List.map_cons];exact ih.cons _
theorem Xs(P:List (Nat × Nat))(a:Nat):(P.filterMap λ q=>if q.1=a then some (D.im (.int (q.2:Int)))else none)=Ag (ch P a):=by
  induction P with
  | nil=>rfl
  | cons q r ih=>
    unfold ch at ih ⊢
    rw[List.filterMap_cons,List.filterMap_cons]
    by_cases e:q.1=a
    . simp only[e,if_true,Ag,List.map_cons];rw[ih]
    . simp only[e,if_false];exact ih
theorem JP{n:Nat}{o:List Nat}(h:o.Nodup)(h2:∀ k ∈ o,k < n):o.length <= n:=by
  have:=List.Nodup.length_le_of_subset h (l₂:=List.range n) λ k hk=>by simpa using h2 k hk
  simpa using this
theorem M0:∀ {bs:List (List Nat)},(∀ B ∈ bs,B ≠ [])->bs.length <= bs.flatten.length
  | [],_=>by simp
  | B :: r,h=>by
    have:=M0 (bs:=r) λ C hC=>h C (by simp[hC])
    have:=List.length_pos_iff.mpr (h B (by simp))
    simp only[List.length_cons,List.flatten_cons,List.length_append];omega
theorem UN{bs:List (List Nat)}{B:List Nat}(h:B ∈ bs):B.length <= bs.flatten.length:=by
  obtain⟨X,Y,rfl⟩:=List.append_of_mem h
  simp only[List.flatten_append,List.flatten_cons,List.length_append];omega
section
variable{c:Int}{ws:List (Int × Int)}{P:List (Nat × Nat)}{up:Nat->Option Nat}{pos:Nat->Nat}
theorem Q1(F:Fo ws.length P up pos){a v:Nat}(ha:a < ws.length)(h:Anc up a v):v < ws.length:=by
  cases h with
  | refl=>exact ha
  | step _ e=>exact(F.lt _ ((F.hup _ _).mp e)).2
theorem sib(F:Fo ws.length P up pos){S:List Nat}(s:SOk ws.length up S){a b v:Nat}(ha:a ∈ S)(hb:b ∈ S)(h:Anc up a v)(h':Anc up b v):a=b:=by
  obtain⟨o,ho⟩:=s.same
  have key:∀ a b,a ∈ S->b ∈ S->Anc up a b->a=b:=by
    intro a b ha hb h
    cases h with
    | refl=>rfl
    | step h1 e=>
      have e2:=ho a ha;have e3:=ho b hb
      have e4:up a=some _:=e2.trans (e3.symm.trans e)
      have:=F.dn _ _ e4;have:=h1.ps F.dn
      omega
  rcases Anc.two h h' with h|h
  . exact key a b ha hb h
  . exact(key b a hb ha h).symm
theorem LG(F:Fo ws.length P up pos)(a:Nat):SOk ws.length up (ch P a):=
  ⟨F.nd.sublist (Wu P a),λ b hb=>(F.lt _ (ch_mem.mp hb)).2,some a,λ b hb=>(F.hup a b).mpr (ch_mem.mp hb)⟩
structure LB(n:Nat)(bs:List (List Nat)):Prop where
  lt:∀ v ∈ bs.flatten,v < n
  fl:bs.flatten.length <= 8
  le:bs.length <= 8
  bl:∀ B ∈ bs,Bl n B
theorem NC{l w:Nat->Int}{B:List Nat}(h:Hold up pos l w B):B ≠ []:=by
  obtain⟨_,_,e,_⟩:=h.ex;rw[e];simp
theorem Sc{bs:List (List Nat)}(n8:ws.length <= 8)(nd:bs.flatten.Nodup)(lt:∀ v ∈ bs.flatten,v < ws.length)(ne:∀ B ∈ bs,B ≠ []):LB ws.length bs:=by
  have h1:=JP nd lt;have h2:=M0 ne
  exact⟨lt,by omega,by omega,λ B hB=>⟨ne B hB,by have:=UN hB;omega,λ k hk=>lt k (List.mem_flatten.mpr ⟨B,hB,hk⟩)⟩⟩
theorem HZ(F:Fo ws.length P up pos){S:List Nat}{bs:List (List Nat)}(hS:∀ a ∈ S,a < ws.length)(L:Line up pos (lf ws) (wf ws) S bs):LB ws.length bs:=
  Sc F.n8 L.nd (λ v hv=>by obtain⟨a,ha,h⟩:=(L.mem v).mp hv;exact Q1 F (hS a ha) h) λ B hB=>NC (L.hold B hB)
theorem na(F:Fo ws.length P up pos){a:Nat}{bs:List (List Nat)}(L:Line up pos (lf ws) (wf ws) (ch P a) bs):a ∉ bs.flatten:=by
  intro h
  obtain⟨b,hb,h⟩:=(L.mem a).mp h
  have:=h.ps F.dn;have:=F.dn _ _ ((F.hup a b).mpr (ch_mem.mp hb));omega
theorem OC(F:Fo ws.length P up pos){a:Nat}(ha:a < ws.length){bs:List (List Nat)}(L:Line up pos (lf ws) (wf ws) (ch P a) bs)(m:Nat):Bl ws.length (a :: (bs.take m).flatten):=by
  have b:=HZ F (LG F a).lt L
  have h:=JP (n:=ws.length) (List.nodup_cons.mpr ⟨na F L,L.nd⟩) λ k hk=>by
    rcases List.mem_cons.mp hk with rfl|hk
    . exact ha
    . exact b.lt k hk
  have sub:((bs.take m).flatten).Sublist bs.flatten:=by
    have e:=congrArg List.flatten (List.take_append_drop m bs)
    rw[List.flatten_append]at e
    rw[<- e]
    exact List.sublist_append_left _ _
  have:=sub.length_le;have n8:=F.n8
  simp only[List.length_cons]at h
  have hq:∀ k ∈ a :: (bs.take m).flatten,k < ws.length:=λ k hk=>by
    rcases List.mem_cons.mp hk with rfl|hk
    . exact ha
    . exact b.lt k (sub.subset hk)
  exact⟨by simp,by simp only[List.length_cons];omega,hq⟩
theorem SM{w l:Int}{r:Int × Int}(h:Rat' w l r)(hw:w <= 8000000)(j:Int):CU r.1 j:=by
  obtain⟨s,p,q,hs,e1,e2,e3⟩:=h.ex
  have h2:p <= p * s:=Nat.le_mul_of_pos_right _ hs
  rw[e3]
  exact Bb (by dsimp only;omega) (by dsimp only;omega)
structure Tk(n:Nat)(B:List Nat)(i:Nat)(x:Hd):Prop where
  bB:Bl n B
  ex:∃ T:List (List Nat),x[i]? = some (.lst (T.map Ac))/\T.flatten.length <= 8/\T.length <= 8/\∀ C ∈ T,Bl n C
noncomputable def ON(c:Int)(ws:List (Int × Int))(P:List (Nat × Nat))(up:Nat->Option Nat)(pos:Nat->Nat)(k:Nat):Prop:=∀ a:Nat,a < ws.length->2 * (8 - pos a) <= k ->
  WF (FV k) [.im (Av c ws),.im (fI P),.im (.int (a:Int))] [] λ d x=>∃ (B:List Nat) (left:List (List Nat)) (i j:Nat),d=.tm [Ac B,.mu i,.mu j]/\x[j]? = some (.lst (left.map Ac))/\Line up pos (lf ws) (wf ws) [a] (B :: left)/\Tk ws.length B i x
noncomputable def HN(hd:Hd):Prop:=∀ o ∈ hd,∃ ns:List Nat,o=.lst (Ag ns)
noncomputable def Mb(c:Int)(ws:List (Int × Int))(P:List (Nat × Nat))(up:Nat->Option Nat)(pos:Nat->Nat)(k:Nat):Prop:=∀ (S:List Nat) (hd:Hd) (m:Nat),HN hd->SOk ws.length up S->hd[m]? = some (.lst (Ag S))->1 <= k->(∀ a ∈ S,2 * (8 - pos a) + 1 <= k) ->
  WF (Ef k) [.im (Av c ws),.im (fI P),.mu m] hd λ d x=>∃ (bs:List (List Nat)) (i:Nat) (g:Hd),d=.mu i/\x=hd ++ g/\x[i]? = some (.lst (bs.map Ac))/\Line up pos (lf ws) (wf ws) S bs
theorem JD(P:List (Nat × Nat)):(P.map prI).map D.im=P.map λ q=>D.im (prI q):=by simp
inductive I_row(c:Int)(ws:List (Int × Int))(P:List (Nat × Nat))(bs:List (List Nat))(a i:Nat)(hd0:Hd):Nat->Ls->Hd->Prop
  | mk (m:Nat) (hm:m <= bs.length) (lt:∀ (i:Nat) (B:List Nat),i < m->bs[i]? = some B->Lt (lf ws) (wf ws) (a :: (bs.take i).flatten) B) :
    I_row c ws P bs a i hd0 (bs.length - m) [some (.im (Av c ws)),some (.im (fI P)),some (.im (.int (a:Int))),some (.mu i),some (Ac (a :: (bs.take m).flatten)),some (.im (.int (m:Int)))] hd0
theorem Qm(W:WOk c ws)(F:Fo ws.length P up pos){k:Nat}(h:Mb c ws P up pos k):ON c ws P up pos (k + 1):=by
  intro a ha hk
  have pl:P.length <= 8:=by
    have:=JP F.nd λ b hb=>by obtain⟨q,hq,rfl⟩:=List.mem_map.mp hb;exact(F.lt q hq).2
    have n8:=F.n8
    simp at this;omega
  have pa:=F.p8 a ha
  show WF (mkF 3 6 (IZ (RR k).2)) _ _ _
  refine BP rfl ?_
  refine AM (Aq (DR (A6 (A4 rfl (A6 (A4 rfl (A6 (BA (B8 (Ds (A4 rfl ⟨_,rfl,?_⟩)))))))))))
  rw[JD]
  refine⟨An (by simp;omega),?_⟩
  refine C1 (λ q:Nat × Nat=>D.im (prI q)) (λ q=>if q.1=a then some (.im (.int (q.2:Int)))else none) (λ _ ls=>∃ x y,ls=[some x,some y,some (.im (.int (a:Int)))]) _ (Ab _) ?_ ?_
  . rintro q hq ls hls
    refine⟨[some (.im (.int (q.1:Int))),some (.im (.int (q.2:Int))),some (.im (.int (a:Int)))],by rcases hls with rfl|⟨_,x,y,rfl⟩ <;> rfl,⟨_,_,rfl⟩,CC (AL (A4 rfl (A4 rfl (Fk ⟨_,rfl,rfl,?_⟩))))⟩
    by_cases e:q.1=a
    . rw[if_pos (by simp[e])];exact⟨_,if_pos e,A4 rfl ⟨rfl,rfl⟩⟩
    . rw[if_neg (by simp;omega)];exact if_neg e
  rw[Xs]
  refine AB ((h (ch P a) _ 0 (by intro o ho;exact⟨ch P a,by simpa using ho⟩) (LG F a) rfl (by omega) λ b hb=>by have:=F.dn _ _ ((F.hup a b).mpr (ch_mem.mp hb));omega).mono ?_)
  rintro d x ⟨bs,i,g,rfl,rfl,e,L⟩
  generalize hx:([] ++ [MO.lst (Ag (ch P a))] ++ g:Hd)=hd1 at e ⊢
  have b:=HZ F (LG F a).lt L
  refine AH (AM (Aq (Bu (A6 (A4 rfl (AB ⟨G9,AH ?_⟩))))))
  refine AM (Aq (As (AH ?_)))
  have fin:∀ m,m <= bs.length->(∀ (i:Nat) (B:List Nat),i < m->bs[i]? = some B->Lt (lf ws) (wf ws) (a :: (bs.take i).flatten) B)->(∀ B,bs[m]? = some B->¬ Lt (lf ws) (wf ws) (a :: (bs.take m).flatten) B) ->
      WS (AZ (CI (A5 (A0 4) (A5 (BF (GV (A0 3) Dg (Ev (A0 5)))) (A5 (BF (GV (A0 3) (Ev (A0 5)) Dg)) AC))))) [some (.im (Av c ws)),some (.im (fI P)),some (.im (.int (a:Int))),some (.mu i),some (Ac (a :: (bs.take m).flatten)),some (.im (.int (m:Int)))] hd1 λ f x=>match f with
        | .rt d=>∃ (B:List Nat) (left:List (List Nat)) (i j:Nat),d=.tm [Ac B,.mu i,.mu j]/\x[j]? = some (.lst (left.map Ac))/\Line up pos (lf ws) (wf ws) [a] (B :: left)/\Tk ws.length B i x
        | .nx _=>∃ (B:List Nat) (left:List (List Nat)) (i j:Nat),D.im .non=.tm [Ac B,.mu i,.mu j]/\x[j]? = some (.lst (left.map Ac))/\Line up pos (lf ws) (wf ws) [a] (B :: left)/\Tk ws.length B i x
        | _=>False:=by
    intro m hm lt stop
    refine B9 (Bu (A6 (A4 rfl (A6 (BA (OU (A4 rfl (SE (Mj (A4 rfl ⟨_,rfl,_,by rw[Az,e],?_⟩))))))))))
    refine A6 (BA (OU (A4 rfl (Mj (A4 rfl ⟨_,rfl,SE ⟨_,by rw[Az,hl e],?_⟩⟩)))))
    refine AB ⟨Ed,_,_,_,_,rfl,?_,Qn F.dn (WB W) (λ b=>ch_mem.trans (F.hup a b).symm) L hm lt stop,OC F ha L m,bs.take m,?_,?_,?_,λ C hC=>b.bl C (List.mem_of_mem_take hC)⟩
    . rw[hn,Wn,List.map_drop]
    . rw[hl hn,Wm,List.map_take]
    . have:=(OC F ha L m).le;simp only[List.length_cons]at this;omega
    . have:=b.le;rw[List.length_take];omega
  refine AM (Kn (I_row c ws P bs a i hd1) (n:=bs.length - 0) (.mk 0 (by omega) (by intro i B hi;omega)) ?_)
  intro N ls hd' hI
  cases hI with
  | mk m hm lt=>
  refine Ik (CC (AL (A4 rfl (Cj (A6 (A4 rfl (AB (Er (ds:=bs.map Ac) (z:=.im (.int (bs.length:Int))) (sv e) (by simp[CN]) (GI ⟨_,rfl,?_⟩)))))))))
  by_cases hm':m < bs.length
  . rw[if_pos (by simpa using hm')]
    have em:bs[m]? = some bs[m]:=List.getElem?_eq_getElem hm'
    have b1:=OC F ha L m;have b2:=b.bl bs[m] (List.getElem_mem hm')
    refine Gs (AV (A6 (AV (A6 (A4 rfl (A6 (A4 rfl (AB ⟨by simp,(Fr W b1).mono ?_⟩))))))))
    rintro d x ⟨r1,rfl,R1⟩
    refine⟨_,rfl,A6 (AV (A6 (A4 rfl (A6 (AL (A4 rfl (A4 rfl (Ah (ds:=bs.map Ac) (e:=Ac bs[m]) (sv e) (EI rfl (by simp[hm'])) (AB ⟨by simp,(Fr W b2).mono ?_⟩)))))))))⟩
    rintro d x ⟨r2,rfl,R2⟩
    refine⟨_,rfl,AB ⟨by simp[B0,Aj],(PU (SM R1 (K4 W b1).2.2.2) (SM R2 (K4 W b2).2.2.2)).mono ?_⟩⟩
    rintro d x rfl
    refine⟨_,rfl,_,rfl,?_⟩
    have q:=Lb R1 R2
    by_cases hlt:Lt (lf ws) (wf ws) (a :: (bs.take m).flatten) bs[m]
    . rw[if_pos (by simpa using q.mpr hlt)]
      have l1:=b1.le;have l2:=b2.le
      refine AM (Aq (AL (A4 rfl (AL (A4 rfl (A4 rfl (Ah (ds:=bs.map Ac) (e:=Ac bs[m]) (sv e) (EI rfl (by simp[hm'])) (Mi (by simp) (by rw[List.length_map,List.length_map];omega) (AH ?_)))))))))
      refine Uj (x:=(m:Int)) rfl (As ⟨_,rfl,bs.length - (m + 1),by omega,?_⟩)
      have e1:D.im (.tup ((a :: (bs.take m).flatten).map (λ k:Nat=>I.int (k:Int)) ++ bs[m].map λ k:Nat=>I.int (k:Int)))=Ac (a :: (bs.take (m + 1)).flatten):=by
        rw[Dq em];simp
      rw[e1]
      exact .mk (m + 1) (by omega) λ i B hi eB=>by
        rcases Nat.lt_or_ge i m with h|h
        . exact lt i B h eB
        . have:i=m:=by omega
          subst this
          rw[em]at eB;cases eB;exact hlt
    . rw[if_neg (by simpa using mt q.mp hlt)]
      exact AH (fin m hm lt λ B eB=>by rw[em]at eB;cases eB;exact hlt)
  . rw[if_neg (by simpa using hm')]
    exact AH (fin m hm lt λ B eB=>by have:=(List.getElem?_eq_some_iff.mp eB).1;omega)
end
section
variable{c:Int}{ws:List (Int × Int)}{P:List (Nat × Nat)}{up:Nat->Option Nat}{pos:Nat->Nat}
noncomputable def Hn(w:Nat)(o:Option D):Option D:=match o with
  | some d=>if clD w d=true then some d else none
  | none=>none
theorem QK(w:Nat)(ls:Ls):GL w ls=ls.map (Hn w):=rfl
theorem X6(w:Nat)(i:I):Hn w (some (.im i))=some (.im i):=rfl
theorem SH{w n:Nat}(h:n < w):Hn w (some (.mu n))=some (.mu n):=by simp[Hn,clD,h]
theorem LJ(k:Nat)(L:List (List Nat)):Fe k (L.map Ac)=L.map Ac:=by
  induction L with
  | nil=>rfl
  | cons x r ih=>simp only[List.map_cons,Fe,shD];rw[ih]
theorem Wt(w:Nat)(L:List (List Nat)):BT w (L.map Ac)=true:=by
  induction L with
  | nil=>rfl
  | cons x r ih=>simp only[List.map_cons,BT,clD,Bool.true_and];exact ih
theorem Ws(w:Nat)(L:List Nat):BT w (Ag L)=true:=by
  induction L with
  | nil=>rfl
  | cons x r ih=>simp only[Ag,List.map_cons,BT,clD,Bool.true_and];exact ih
theorem HN.all{hd:Hd}(h:HN hd)(w:Nat):hd.all (clO w)=true:=List.all_eq_true.mpr λ o ho=>by
  obtain⟨ns,rfl⟩:=h o ho
  exact Ws w ns
theorem tk1(hd:Hd)(y:MO)(r:Hd):(hd ++ y :: r).take (hd.length + 1)=hd ++ [y]:=by
  rw[List.take_append,List.take_of_length_le (by omega),show hd.length + 1 - hd.length=1 by omega];rfl
inductive I_rat(c:Int)(ws:List (Int × Int))(bs:List (List Nat))(hd0:Hd)(r es:List D)(ls:Ls)(hd:Hd):Prop
  | mk (dn rest:List (List Nat)) (rs:List (Int × Int)) (z:Option D) (e:bs=dn ++ rest) (er:r=rest.map Ac) (ee:es=rs.map B0) (hl:rs.length=dn.length) (R:∀ k (hk:k < rs.length),Rat' (Sm (wf ws) (bs.getD k [])) (Sm (lf ws) (bs.getD k [])) rs[k]) (el:ls=[z,some (.im (Av c ws))]) (eh:hd=hd0):I_rat c ws bs hd0 r es ls hd
inductive I_line(c:Int)(ws:List (Int × Int))(P:List (Nat × Nat))(up:Nat->Option Nat)(pos:Nat->Nat)(S:List Nat)(m:Nat)(hd0:Hd)(r:List D)(ls:Ls)(hd:Hd):Prop
  | mk (dn rest:List Nat) (bs:List (List Nat)) (z4 z5 z6 z7:Option D) (e:S=dn ++ rest) (er:r=Ag rest) (pr:Pre up pos (lf ws) (wf ws) dn bs) (el:ls=[some (.im (Av c ws)),some (.im (fI P)),some (.mu m),some (.mu hd0.length),z4,z5,z6,z7]) (eh:hd=hd0 ++ [.lst (bs.map Ac)]):I_line c ws P up pos S m hd0 r ls hd
theorem SV(F:Fo ws.length P up pos){S:List Nat}{bs:List (List Nat)}(hS:∀ a ∈ S,a < ws.length)(L:Pre up pos (lf ws) (wf ws) S bs):LB ws.length bs:=
  Sc F.n8 L.nd (λ v hv=>by obtain⟨a,ha,h⟩:=(L.mem v).mp hv;exact Q1 F (hS a ha) h) λ B hB=>NC (L.hold B hB)
theorem PR(W:WOk c ws)(F:Fo ws.length P up pos){k:Nat}(h:ON c ws P up pos k):Mb c ws P up pos (k + 1):=by
  intro S hd m hN s em _ hk
  have ml:m < hd.length:=(List.getElem?_eq_some_iff.mp em).1
  show WF (mkF 3 8 (HP (RR k).1)) _ _ _
  refine BP rfl ?_
  refine AM (Aq (BA (Cy (AB ⟨DX,AH ?_⟩))))
  refine AM (Cw (DQ (A4 rfl ⟨m,_,rfl,hl em,?_⟩)))
  dsimp only
  refine DP (I_line c ws P up pos S m hd) (.mk [] S [] none none none none rfl rfl Tu rfl rfl) ?_ ?_
  . intro d r ls hd' hI
    obtain⟨dn,rest,bs,z4,z5,z6,z7,e,er,pr,rfl,rfl⟩:=hI
    cases rest with
    | nil=>cases er
    | cons a rest=>
    obtain⟨rfl,rfl⟩:=List.cons.inj er
    have ha:a ∈ S:=by rw[e];simp
    have hdn:∀ b ∈ dn,b ∈ S:=λ b hb=>by rw[e];simp[hb]
    refine⟨[some (.im (Av c ws)),some (.im (fI P)),some (.mu m),some (.mu hd.length),some (.im (.int (a:Int))),z5,z6,z7],rfl,?_⟩
    refine Ko (AM (Kp (GK (A6 (A4 rfl (A6 (A4 rfl (A6 (A4 rfl (AB ⟨by simp,(h a (s.lt a ha) (by have:=hk a ha;omega)).mono ?_⟩))))))))))
    rintro d x ⟨B,left,i,j,rfl,ej,L,_⟩
    refine⟨[some (.im (Av c ws)),some (.im (fI P)),some (.mu m),some (.mu hd.length),some (.im (.int (a:Int))),some (Ac B),some (.mu (i + (hd ++ [MO.lst (bs.map Ac)]).length)),some (.mu (j + (hd ++ [MO.lst (bs.map Ac)]).length))],rfl,AH ?_⟩
    generalize hw:(hd ++ [MO.lst (bs.map Ac)]).length=w
    have hw':w=hd.length + 1:=by rw[<- hw];simp
    have pr2:Pre up pos (lf ws) (wf ws) (dn ++ [a]) (bs ++ B :: left):=Tv pr L λ b hb v h1 h2=>by
      have:=sib F s ha (hdn b hb) h1 h2
      subst this
      have nd:=s.nd
      rw[e]at nd
      exact(List.nodup_append.mp nd).2.2 a hb a (by simp) rfl
    have b2:=SV F (λ b hb=>by rcases List.mem_append.mp hb with hb|hb;exact s.lt b (hdn b hb);simp at hb;subst hb;exact s.lt b ha) pr2
    have ll:=b2.le
    simp only[List.length_append,List.length_cons]at ll
    have ej':(x.map (shO w))[j]? = some (.lst (left.map Ac)):=by rw[List.getElem?_map,ej,Option.map_some];simp only[shO];rw[LJ]
    refine Sv rfl (BA (OV (BA (Cy (A6 (A4 rfl (AB ⟨G9,A4 rfl ?_⟩)))))))
    refine⟨_,_,[Ac B],left.map Ac,rfl,rfl,hn,hl (by rw[List.getElem?_append_right (by omega),show j + w - (hd ++ [MO.lst (bs.map Ac)]).length=j by omega];exact ej'),An (by simp;omega),?_⟩
    refine⟨_,bs.map Ac,[Ac B] ++ left.map Ac,rfl,hl (hl (hl hn)),hn,An (by simp;omega),?_⟩
    have e1:(((hd ++ [MO.lst (bs.map Ac)] ++ x.map (shO w) ++ [MO.lst [Ac B]] ++ [MO.lst ([Ac B] ++ left.map Ac)]).set hd.length (.lst (bs.map Ac ++ ([Ac B] ++ left.map Ac)))).take w)=hd ++ [.lst ((bs ++ B :: left).map Ac)]:=by
      rw[hw']
      simp only[List.append_assoc,List.cons_append,List.nil_append,List.set_append_right _ _ (Nat.le_refl _),Nat.sub_self,List.set_cons_zero]
      rw[tk1]
      simp
    rw[e1]
    refine⟨?_,?_⟩
    . rw[List.all_append,hN.all,Bool.true_and]
      simp only[List.all_cons,List.all_nil,Bool.and_true,clO]
      exact Wt _ _
    refine⟨_,rfl,?_,?_⟩
    . intro p hp;simp at hp;subst hp;exact hl em
    . rw[QK]
      refine .mk (dn ++ [a]) rest (bs ++ B :: left) (some (.im (.int (a:Int)))) (some (Ac B)) (Hn w (some (.mu (i + w)))) (Hn w (some (.mu (j + w)))) (by rw[e];simp) rfl pr2 ?_ rfl
      simp only[List.set_cons_succ,List.set_cons_zero,List.map_cons,List.map_nil,X6]
      rw[SH (by omega:m < _),SH (by omega:hd.length < _)]
  . intro ls hd' hI
    obtain⟨dn,rest,bs,z4,z5,z6,z7,e,er,pr,rfl,rfl⟩:=hI
    have:rest=[]:=by cases rest with
      | nil=>rfl
      | cons _ _=>cases er
    subst this
    rw[List.append_nil]at e
    subst e
    have b:=SV F s.lt pr
    have n8:=b.le
    refine AH (B9 (BA (B8 (DQ (DR (A6 (BA (B8 (DQ (A4 rfl ⟨hd.length,_,rfl,hn,?_⟩))))))))))
    refine⟨An (by simp;omega),?_⟩
    refine SG (I_rat c ws bs (hd ++ [.lst (bs.map Ac)])) (.mk [] bs [] none rfl rfl rfl rfl (by intro k hk;simp at hk) rfl rfl) ?_ ?_
    . intro d r es ls hd' hI
      obtain⟨dn,rest,rs,z,e,er,rfl,hl',R,rfl,rfl⟩:=hI
      cases rest with
      | nil=>cases er
      | cons B rest=>
      obtain⟨rfl,rfl⟩:=List.cons.inj er
      refine⟨[some (Ac B),some (.im (Av c ws))],rfl,B6 ?_⟩
      rw[if_pos rfl]
      have bB:=b.bl B (by rw[e];simp)
      refine AV (A6 (A4 rfl (A6 (A4 rfl (AB ⟨by simp,(Fr W bB).mono ?_⟩)))))
      rintro d x ⟨r,rfl,hr⟩
      refine⟨_,rfl,?_,?_⟩
      . intro p hp;simp at hp;subst hp;exact hn
      . refine .mk (dn ++ [B]) rest (rs ++ [r]) _ (by rw[e];simp) rfl (by simp[B0,Aj]) (by simp[hl']) ?_ rfl rfl
        intro k hk'
        rcases Nat.lt_or_ge k rs.length with h|h
        . rw[List.getElem_append_left h];exact R k h
        . have e5:k=dn.length:=by simp at hk';omega
          have e6:bs.getD k []=B:=by rw[e,e5];simp[List.getD]
          rw[e6,List.getElem_append_right h]
          simpa using hr
    intro es ls hd' hI
    obtain⟨dn,rest,rs,z,e,er,rfl,hl',R,rfl,rfl⟩:=hI
    have:rest=[]:=by cases rest with
      | nil=>rfl
      | cons _ _=>cases er
    subst this
    rw[List.append_nil]at e
    have hr:rs.length=bs.length:=by rw[e];exact hl'
    have WR:Rs bs.length (λ k=>Sm (lf ws) (bs.getD k [])) (λ k=>Sm (wf ws) (bs.getD k [])):=⟨n8,λ k hk=>by
      have:bs.getD k []=bs[k]:=by simp[hk]
      simp only[this]
      exact K4 W (b.bl _ (List.getElem_mem hk))⟩
    refine AB ((Pa WR hr R hn).mono ?_)
    rintro d x ⟨row,rfl,rfl,pm,pw⟩
    have rl:row.length=bs.length:=by simpa using pm.length_eq
    refine⟨_,Ag row,rfl,hn,An (by simp;omega),?_⟩
    refine C1 (xs:=row) (λ k:Nat=>D.im (.int (k:Int))) (λ k=>some (Ac (bs.getD k []))) (λ _ ls=>∃ x,ls=[some x,some (.mu hd.length)]) _ (by intro p hp;rw[List.mem_singleton]at hp;subst hp;exact hn) ?_ ?_
    . rintro x hx ls hls
      have hxb:x < bs.length:=by simpa using pm.mem_iff.mp hx
      refine⟨[some (.im (.int (x:Int))),some (.mu hd.length)],by rcases hls with rfl|⟨_,x,rfl⟩ <;> rfl,⟨_,rfl⟩,B6 ⟨rfl,?_⟩⟩
      rw[if_pos rfl]
      refine⟨_,rfl,AL (A4 rfl (A4 rfl (Ah (ds:=bs.map Ac) (e:=Ac (bs.getD x [])) (sv (hl (hl hn))) (EI rfl (by simp[hxb])) ⟨rfl,rfl⟩)))⟩
    refine⟨row.map λ k=>bs.getD k [],_,[.lst (bs.map Ac),.lst (rs.map B0),.lst (Ag row),.lst ((row.map λ k=>bs.getD k []).map Ac)],rfl,by simp,?_,Oc pr pm pw⟩
    rw[hn];simp
end
section
variable{c:Int}{ws:List (Int × Int)}{P:List (Nat × Nat)}{up:Nat->Option Nat}{pos:Nat->Nat}
theorem rl(W:WOk c ws)(F:Fo ws.length P up pos):∀ k,ON c ws P up pos k/\Mb c ws P up pos k
  | 0=>⟨λ a ha h=>by have:=F.p8 a ha;omega,λ S hd m _ _ _ h=>by omega⟩
  | k + 1=>⟨Qm W F (rl W F k).2,PR W F (rl W F k).1⟩
theorem Fd:∀ (l acc:List Int),acc.Nodup->(l.foldl Eo acc).length <= acc.length + l.length/\((l.foldl Eo acc).length=acc.length + l.length ↔ (acc ++ l).Nodup)
  | [],acc,h=>by simp[h]
  | x :: r,acc,h=>by
    rw[List.foldl_cons]
    by_cases hx:x ∈ acc
    . have e:Eo acc x=acc:=by simp[Eo,hx]
      rw[e]
      obtain⟨a,b⟩:=Fd r acc h
      refine⟨by simp;omega,?_⟩
      constructor
      . intro z;simp at z;omega
      . intro z
        have:=List.nodup_append.mp z
        exact absurd rfl (this.2.2 x hx x List.mem_cons_self)
    . have e:Eo acc x=acc ++ [x]:=by simp[Eo,hx]
      rw[e]
      have h':(acc ++ [x]).Nodup:=by
        rw[List.nodup_append]
        exact⟨h,by simp,λ a ha b hb z=>by simp at hb;subst hb;subst z;exact hx ha⟩
      obtain⟨a,b⟩:=Fd r (acc ++ [x]) h'
      simp only[List.length_append,List.length_cons,List.length_nil,List.append_assoc,List.cons_append,List.nil_append]at a b ⊢
      exact⟨by omega,by rw[<- b];omega⟩
theorem SY(F:Fo ws.length P up pos):P.length <= 8:=by
  have:=JP F.nd λ b hb=>by obtain⟨q,hq,rfl⟩:=List.mem_map.mp hb;exact(F.lt q hq).2
  have n8:=F.n8;simp at this;omega
noncomputable abbrev Ei(P:List (Nat × Nat)):List Int:=P.map λ q=>(q.2:Int)
inductive I_fo(P:List (Nat × Nat))(r:List D)(acc:List Int)(ls:Ls)(hd:Hd):Prop
  | mk (dn rest:List (Nat × Nat)) (z0 z1:Option D) (ep:P=dn ++ rest) (er:r=rest.map λ q=>D.im (prI q)) (el:ls=[z0,z1]) (eh:hd=[]) (ea:acc=(Ei dn).foldl Eo []):I_fo P r acc ls hd
theorem S4(F:Fo ws.length P up pos):WF Dp [.im (.int (ws.length:Int)),.im (fI P)] [] λ d x=>d=.im (.bl true):=by
  have pl:=SY F
  unfold Dp
  refine BP rfl ?_
  refine B9 (AL (Sy (QB (Ds (A4 rfl ⟨_,rfl,?_⟩)))))
  rw[JD]
  refine Kt (I_fo P) (.mk [] P none none rfl rfl rfl rfl rfl) ?_ ?_
  . intro d r acc ls hd hI
    obtain⟨dn,rest,z0,z1,ep,er,rfl,rfl,rfl⟩:=hI
    cases rest with
    | nil=>cases er
    | cons p rest=>
      obtain⟨rfl,rfl⟩:=List.cons.inj er
      refine⟨[some (.im (.int (p.1:Int))),some (.im (.int (p.2:Int)))],rfl,B6 ?_⟩
      rw[if_pos rfl]
      have l1:=(Fd (Ei dn) [] (by simp)).1
      have l2:=congrArg List.length ep
      simp at l1 l2
      refine WP.eq (z:=Eo ((Ei dn).foldl Eo []) (p.2:Int)) (h:=[]) ?_ ⟨Ab _,.mk (dn ++ [p]) rest _ _ (by rw[ep];simp) rfl rfl rfl (by simp[Ei])⟩
      have:((Ei dn).foldl Eo []).length < 1000:=by omega
      simp[Kk,this]
  . intro acc ls hd hI
    obtain⟨dn,rest,z0,z1,ep,er,rfl,rfl,rfl⟩:=hI
    have:rest=[]:=by cases rest with
      | nil=>rfl
      | cons _ _=>cases er
    subst this
    simp only[List.append_nil]at ep
    subst ep
    refine Cj (A6 (A4 rfl (AB (Er (ds:=P.map λ q=>D.im (prI q)) (z:=.im (.int (P.length:Int))) (by rw[<- JD];rfl) (by simp[CN]) (Fk ?_)))))
    have h:=(Fd (Ei P) [] (by simp)).2
    have nd:(Ei P).Nodup:=by
      have e:Ei P=(P.map (·.2)).map λ k:Nat=>(k:Int):=by simp[Ei]
      rw[e]
      exact List.Pairwise.map _ (λ a b h=>λ z=>h (by omega)) F.nd
    have:=h.mpr (by simpa using nd)
    simp only[List.length_nil,Nat.zero_add,List.length_map]at this
    show D.im (.bl (decide _))=_
    rw[this]
    simp
theorem Qv(W:WOk c ws)(F:Fo ws.length P up pos):WF Bx [.im (Av c ws),.im (fI P)] [] λ d x=>d=.im .non:=by
  have n8:=W.n8
  unfold Bx
  refine BP rfl ?_
  refine AM (DI (AV (A6 (A4 rfl (AB ⟨by simp,(Im W).mono ?_⟩)))))
  rintro d x rfl
  refine⟨_,rfl,AH ?_⟩
  refine Cv (Gu (Gs (AV (A6 (Cj (A6 (A4 rfl (AB (Er (ds:=((ws.map (wk c)).map Bj).map D.im) (z:=.im (.int (ws.length:Int))) rfl (by simp[CN]) ?_)))))))))
  refine A6 (A4 rfl (AB ⟨by simp,(S4 F).mono ?_⟩))
  rintro d x rfl
  exact⟨_,rfl,_,rfl,(λ h=>by cases h),λ _=>CO rfl⟩
noncomputable abbrev EN(n:Nat)(P:List (Nat × Nat)):List Nat:=(List.range n).filter λ a=>decide (a ∉ P.map (·.2))
theorem Mr(F:Fo ws.length P up pos){a:Nat}(h:a ∈ EN ws.length P):up a=none:=by
  have h2:=(List.mem_filter.mp h).2
  simp only[decide_eq_true_eq]at h2
  cases e:up a with
  | none=>rfl
  | some u=>exact absurd (List.mem_map.mpr ⟨(u,a),(F.hup u a).mp e,rfl⟩) h2
theorem GN(F:Fo ws.length P up pos):SOk ws.length up (EN ws.length P):=
  ⟨(List.nodup_range).filter _,λ a ha=>by simpa using (List.mem_filter.mp ha).1,none,λ a ha=>Mr F ha⟩
theorem Rx(W:WOk c ws)(F:Fo ws.length P up pos):WF FX [.im (Av c ws),.im (fI P)] [] λ d x=>∃ (bs:List (List Nat)) (i:Nat),d=.mu i/\x[i]? = some (.lst (bs.map Ac))/\Line up pos (lf ws) (wf ws) (EN ws.length P) bs:=by
  have n8:=W.n8;have pl:=SY F
  unfold FX
  refine BP rfl ?_
  refine AM (DI (AV (A6 (A4 rfl (A6 (A4 rfl (AB ⟨by simp,(Qv W F).mono ?_⟩)))))))
  rintro d x rfl
  refine⟨_,rfl,AH ?_⟩
  refine AM (Aq (BA (B8 (Ds (A4 rfl ⟨_,rfl,?_⟩)))))
  rw[JD]
  refine⟨An (by simp;omega),?_⟩
  refine C1 (xs:=P) (λ q:Nat × Nat=>D.im (prI q)) (λ q=>some (.im (.int (q.2:Int)))) (λ _ ls=>∃ x y,ls=[some x,some y]) _ (Ab _) ?_ ?_
  . rintro q hq ls hls
    refine⟨[some (.im (.int (q.1:Int))),some (.im (.int (q.2:Int)))],by rcases hls with rfl|⟨_,x,y,rfl⟩ <;> rfl,⟨_,_,rfl⟩,B6 ⟨rfl,?_⟩⟩
    rw[if_pos rfl]
    exact⟨_,rfl,A4 rfl ⟨rfl,rfl⟩⟩
  have e0:(P.filterMap λ q=>some (D.im (.int (q.2:Int))))=Ag (P.map (·.2)):=by simp[Ag]
  rw[e0]
  refine AH (B9 (DR (A6 (A4 rfl (A6 (A4 rfl (A6 (BA (B8 (FG (A6 (Cj (A6 (A4 rfl (AB ?_)))))))))))))))
  refine Er (ds:=((ws.map (wk c)).map Bj).map D.im) (z:=.im (.int (ws.length:Int))) rfl (by simp[CN]) ?_
  refine AB ⟨_,rfl,Dd (by omega) (by omega),An (by simp;omega),?_⟩
  rw[Int.toNat_natCast,J3]
  refine C1 (xs:=List.range ws.length) (λ k:Nat=>D.im (.int (k:Int))) (λ k=>if k ∉ P.map (·.2)then some (.im (.int (k:Int)))else none) (λ _ ls=>∃ x,ls=[some x,some (.mu 0)]) _ (Ab _) ?_ ?_
  . rintro k hk ls hls
    refine⟨[some (.im (.int (k:Int))),some (.mu 0)],by rcases hls with rfl|⟨_,x,rfl⟩ <;> rfl,⟨_,rfl⟩,?_⟩
    refine CC (AL (A4 rfl (A4 rfl (Ul (xs:=Ei P) (by simp[B2,Ad,Az,Ag]) ⟨_,rfl,rfl,?_⟩))))
    have q:((k:Int) ∈ Ei P) ↔ k ∈ P.map (·.2):=by
      simp only[Ei,List.mem_map]
      constructor
      . rintro⟨q,h,e⟩;exact⟨q,h,by omega⟩
      . rintro⟨q,h,e⟩;exact⟨q,h,by omega⟩
    by_cases e:k ∈ P.map (·.2)
    . rw[if_neg (by simp only[if_true];rw[decide_eq_true (q.mpr e)];simp)];exact if_neg (by simpa using e)
    . rw[if_pos (by simp only[if_true];rw[decide_eq_false (mt q.mp e)];rfl)];exact⟨_,if_pos e,A4 rfl ⟨rfl,rfl⟩⟩
  have e1:((List.range ws.length).filterMap λ k:Nat=>if k ∉ P.map (·.2)then some (D.im (.int (k:Int)))else none)=Ag (EN ws.length P):=by
    unfold EN
    induction List.range ws.length with
    | nil=>rfl
    | cons x r ih=>
      rw[List.filterMap_cons,List.filter_cons]
      by_cases h:x ∈ P.map (·.2)
      . simp only[h,not_true,if_false,decide_false];exact ih
      . simp only[h,not_false_eq_true,if_true,decide_true,Ag,List.map_cons];rw[ih]
  rw[e1]
  refine AB (((rl W F 18).2 (EN ws.length P) _ 1 ?_ (GN F) rfl (by omega) λ a ha=>by omega).mono ?_)
  . intro o ho
    simp only[List.nil_append,List.cons_append,List.mem_cons,List.not_mem_nil,or_false]at ho
    rcases ho with rfl|rfl
    . exact⟨_,rfl⟩
    . exact⟨_,rfl⟩
  . rintro d x ⟨bs,i,g,rfl,rfl,e,L⟩
    exact⟨bs,i,rfl,e,L⟩
end
theorem Sw{is js:List I}{hd:Hd}{QE:D->Hd->Prop}(h1:is.length + js.length <= 100)(q:QE (.im (.tup (is ++ js))) hd):WP (Se (.im (.tup is)) (.im (.tup js)) hd) QE:=by
  by_cases h0:is=[]
  . subst h0
    refine WP.eq (z:=.im (.tup js)) (h:=hd) ?_ q
    show(match BI (.im (.tup [])) (.im (.tup js)) hd with|some z=>some z|none=>I0 (.im (.tup [])) (.im (.tup js)) hd)=_
    have e:BI (.im (.tup [])) (.im (.tup js)) hd=none:=by
      show(match Jz (.im (.tup [])) (.im (.tup js)) hd with|some z=>some z|none=>Gb (.im (.tup [])) (.im (.tup js)) hd)=_
      rw[show Jz (.im (.tup [])) (.im (.tup js)) hd=none from rfl]
      unfold Gb
      rw[show Ad (.im (.tup []))=some []from rfl,show Ad (.im (.tup js))=some (js.map D.im)from rfl,Option.bind_some,Option.bind_some,if_neg (λ z=>z.1 rfl)]
    rw[e]
    unfold I0
    rw[show Ad (.im (.tup []))=some []from rfl,show Ad (.im (.tup js))=some (js.map D.im)from rfl,Option.bind_some,Option.bind_some,if_pos rfl,CZ]
  . obtain⟨d,x,e,q⟩:=Mi (QE:=QE) h0 h1 q
    refine⟨d,x,?_,q⟩
    show(match BI (.im (.tup is)) (.im (.tup js)) hd with|some z=>some z|none=>I0 (.im (.tup is)) (.im (.tup js)) hd)=_
    rw[e]
theorem OT{mi:MI}{ls:Ls}{hd:Hd}{QA:List D->Hd->Prop}(h:WI mi ls hd λ p x=>∃ ns:List Int,p.1=intD ns/\ns.length < 64/\QA (intD (Db ns)) x):WA (FC mi) ls hd QA:=by
  obtain⟨p,x,e,ns,e1,hl,q⟩:=h
  refine⟨_,_,?_,q⟩
  simp only[FC,e,Option.bind_some,e1,show BY (intD ns)=some ns from Hc ns,hl,if_true]
theorem Om{w l:Int}{r:Int × Int}(h:Rat' w l r)(hw:w <= 8000000)(h0:1 <= l)(hl:l <= 8000000):(0 <= r.1/\r.1 <= 8000000)/\1 <= r.2/\r.2 <= 8000000:=by
  obtain⟨s,p,q,hs,e1,e2,e3⟩:=h.ex
  have h2:p <= p * s:=Nat.le_mul_of_pos_right _ hs
  have h3:q <= q * s:=Nat.le_mul_of_pos_right _ hs
  have h4:0 < q:=by
    rcases Nat.eq_zero_or_pos q with z|z
    . subst z;simp at e2;omega
    . exact z
  rw[e3]
  dsimp only
  omega
theorem XA(k:Nat)(L:List I):Fe k (L.map D.im)=L.map D.im:=by
  induction L with
  | nil=>rfl
  | cons x r ih=>simp only[List.map_cons,Fe,shD];rw[ih]
section
variable{c:Int}{ws:List (Int × Int)}{P:List (Nat × Nat)}{up:Nat->Option Nat}{pos:Nat->Nat}
inductive I_pr(c:Int)(ws:List (Int × Int))(P:List (Nat × Nat))(a i j:Nat)(B:List Nat)(T:List (List Nat))(rs:List (Int × Int))(E:List D)(h0:Hd)(k6:Nat)(r:List D)(ls:Ls)(hd:Hd):Prop
  | mk (k:Nat) (ns:List Int) (es:List I) (z9 z10:Option D) (er:r=E.drop k) (hk:k <= E.length) (ln:ns.length=(T.take k).flatten.length) (le:es.length=k) (el:ls=[some (.im (Av c ws)),some (.im (fI P)),some (.im (.int (a:Int))),some (Ac B),some (.mu i),some (.mu j),some (.mu k6),some (.mu h0.length),some (.im (.tup (ns.map I.int))),z9,z10]) (eh:hd=h0 ++ [.lst (es.map D.im)]):I_pr c ws P a i j B T rs E h0 k6 r ls hd
theorem Rc(W:WOk c ws)(F:Fo ws.length P up pos){a:Nat}(ha:a < ws.length):WF Dn [.im (Av c ws),.im (fI P),.im (.int (a:Int))] [] λ d x=>∃ (i:Nat) (es:List I),d=.mu i/\x[i]? = some (.lst (es.map D.im))/\es.length <= 8:=by
  unfold Dn
  refine BP rfl ?_
  refine AM (Kp (GK (A6 (A4 rfl (A6 (A4 rfl (A6 (A4 rfl (AB ⟨by simp,((rl W F 18).1 a ha (by omega)).mono ?_⟩)))))))))
  rintro d y ⟨B,left,i,j,rfl,_,_,tk⟩
  obtain⟨bB,T,ei,fl8,t8,bT⟩:=tk
  refine⟨[some (.im (Av c ws)),some (.im (fI P)),some (.im (.int (a:Int))),some (Ac B),some (.mu i),some (.mu j),none,none,none,none,none],rfl,AH ?_⟩
  have ei':(([]:Hd) ++ y.map (shO ([]:Hd).length))[i]? = some (.lst (T.map Ac)):=by
    rw[List.nil_append,List.getElem?_map,ei,Option.map_some];simp only[shO];rw[LJ]
  generalize (([]:Hd) ++ y.map (shO ([]:Hd).length))=h0 at ei' ⊢
  refine AM (Aq (BA (OV (BA (B8 (DQ (A4 rfl ⟨i,_,rfl,ei',An (by simp;omega),?_⟩)))))))
  refine SG (I_rat c ws T h0) (.mk [] T [] none rfl rfl rfl rfl (by intro k hk;simp at hk) rfl rfl) ?_ ?_
  . intro d r es ls hd' hI
    obtain⟨dn,rest,rs,z,e,er,rfl,hl',R,rfl,eh⟩:=hI
    subst hd'
    cases rest with
    | nil=>cases er
    | cons C rest=>
    obtain⟨rfl,rfl⟩:=List.cons.inj er
    refine⟨[some (Ac C),some (.im (Av c ws))],rfl,B6 ?_⟩
    rw[if_pos rfl]
    refine AV (A6 (A4 rfl (A6 (A4 rfl (AB ⟨by simp,(Fr W (bT C (by rw[e];simp))).mono ?_⟩)))))
    rintro d x ⟨r,rfl,hr⟩
    refine⟨_,rfl,?_,?_⟩
    . intro p hp;rw[List.mem_singleton]at hp;subst hp;exact ei'
    . refine .mk (dn ++ [C]) rest (rs ++ [r]) _ (by rw[e];simp) rfl (by simp[B0,Aj]) (by simp[hl']) ?_ rfl rfl
      intro k hk'
      rcases Nat.lt_or_ge k rs.length with h|h
      . rw[List.getElem_append_left h];exact R k h
      . have e5:k=dn.length:=by simp at hk';omega
        have e6:T.getD k []=C:=by rw[e,e5];simp[List.getD]
        rw[e6,List.getElem_append_right h]
        simpa using hr
  intro es ls hd' hI
  obtain⟨dn,rest,rs,z,e,er,rfl,hl',R,rfl,eh⟩:=hI
  subst hd'
  have:rest=[]:=by cases rest with
    | nil=>rfl
    | cons _ _=>cases er
  subst this
  rw[List.append_nil]at e
  have hr:rs.length=T.length:=by rw[e];exact hl'
  refine BA (Cy (A6 (AV (A6 (A4 rfl (A6 (A4 rfl (AB ⟨by simp,(Fr W bB).mono ?_⟩))))))))
  rintro d x ⟨r0,rfl,hr0⟩
  refine⟨_,rfl,AB ⟨G9,_,_,rs.map B0,[B0 r0],rfl,rfl,hl hn,hn,An (by simp;omega),AH ?_⟩⟩
  have eR:rs.map B0 ++ [B0 r0]=(rs ++ [r0]).map B0:=by simp
  rw[eR]
  have rb:∀ k (hk:k < (rs ++ [r0]).length),(0 <= (rs ++ [r0])[k].1/\(rs ++ [r0])[k].1 <= 8000000)/\1 <= (rs ++ [r0])[k].2/\(rs ++ [r0])[k].2 <= 8000000:=by
    intro k hk
    rcases Nat.lt_or_ge k rs.length with h|h
    . have hT:k < T.length:=by omega
      have e6:T.getD k []=T[k]:=by simp[hT]
      have b1:=K4 W (bT T[k] (List.getElem_mem hT))
      have h1:=R k h
      rw[e6]at h1
      rw[List.getElem_append_left h]
      exact Om h1 b1.2.2.2 b1.1 b1.2.1
    . have b1:=K4 W bB
      have:(rs ++ [r0])[k]=r0:=by rw[List.getElem_append_right h];simp
      rw[this]
      exact Om hr0 b1.2.2.2 b1.1 b1.2.1
  have lr:(rs ++ [r0]).length=T.length + 1:=by simp[hr]
  generalize rs ++ [r0]=rr at rb lr ⊢
  have e6:(h0 ++ [MO.lst (rs.map B0)] ++ [MO.lst [D.im (.tup [.int r0.1,.int r0.2])]] ++ [MO.lst (rr.map B0)])[(h0 ++ [MO.lst (rs.map B0)] ++ [MO.lst [D.im (.tup [.int r0.1,.int r0.2])]]).length]? = some (.lst (rr.map B0)):=hn
  have ei2:(h0 ++ [MO.lst (rs.map B0)] ++ [MO.lst [D.im (.tup [.int r0.1,.int r0.2])]] ++ [MO.lst (rr.map B0)])[i]? = some (.lst (T.map Ac)):=hl (hl (hl ei'))
  generalize (h0 ++ [MO.lst (rs.map B0)] ++ [MO.lst [D.im (.tup [.int r0.1,.int r0.2])]]).length=k6 at e6 ⊢
  generalize h0 ++ [MO.lst (rs.map B0)] ++ [MO.lst [D.im (.tup [.int r0.1,.int r0.2])]] ++ [MO.lst (rr.map B0)]=h1 at e6 ei2 ⊢
  refine AM (Aq (BA (Cy (AB ⟨DX,AH ?_⟩))))
  refine AM (Aq (Bu (AB ⟨DX,AH ?_⟩)))
  refine AM (Cw (Mk (DQ (A4 rfl ⟨i,_,rfl,hl ei2,?_⟩))))
  dsimp only
  generalize hE:((T.map Ac).zipIdx.map λ q=>Ai [.im (.int (q.2:Int)),q.1])=E
  have El:E.length=T.length:=by rw[<- hE];simp
  have Ea:∀ j (hj:j < E.length),E[j]=.im (.tup [.int (j:Int),CM (T[j]'(by omega))]):=by
    intro j hj
    subst hE
    simp[Ai,BZ]
  refine DP (I_pr c ws P a i j B T rr E h1 k6) (.mk 0 [] [] none none rfl (by omega) rfl rfl rfl rfl) ?_ ?_
  . intro d r ls hd' hI
    obtain⟨k,ns,es,z9,z10,er,hk,ln,le,rfl,rfl⟩:=hI
    have hk':k < E.length:=by
      rcases Nat.lt_or_ge k E.length with h|h
      . exact h
      . rw[List.drop_eq_nil_of_le h]at er;cases er
    rw[List.drop_eq_getElem_cons hk',Ea k hk']at er
    obtain⟨rfl,rfl⟩:=List.cons.inj er
    have hkT:k < T.length:=by omega
    have eT:T[k]? = some T[k]:=List.getElem?_eq_getElem hkT
    have l2:(T.take (k + 1)).flatten.length=ns.length + T[k].length:=by rw[Dq eT,List.length_append,ln]
    have l3:(T.take (k + 1)).flatten.length <= 8:=by
      have e:=congrArg List.length (congrArg List.flatten (List.take_append_drop (k + 1) T))
      rw[List.flatten_append,List.length_append]at e
      omega
    refine⟨[some (.im (Av c ws)),some (.im (fI P)),some (.im (.int (a:Int))),some (Ac B),some (.mu i),some (.mu j),some (.mu k6),some (.mu h1.length),some (.im (.tup (ns.map I.int))),some (.im (.int (k:Int))),some (Ac T[k])],rfl,?_⟩
    refine AM (Aq (CF (OT (Ds (AL (A4 rfl (A4 rfl (Sw (by simp;omega) ⟨_,rfl,ns ++ T[k].map (λ v:Nat=>(v:Int)),?_,by simp;omega,?_⟩))))))))
    . simp only[intD,List.map_append,List.map_map];rfl
    refine⟨_,rfl,AH ?_⟩
    have em:Ai (intD (Db (ns ++ T[k].map λ v:Nat=>(v:Int))))=.im (.tup ((Db (ns ++ T[k].map λ v:Nat=>(v:Int))).map I.int)):=by
      have:intD (Db (ns ++ T[k].map λ v:Nat=>(v:Int)))=((Db (ns ++ T[k].map λ v:Nat=>(v:Int))).map I.int).map D.im:=by simp[intD]
      rw[this,CZ]
    rw[em]
    have k1:k < rr.length:=by omega
    have k2:k + 1 < rr.length:=by omega
    refine DI (GJ (A4 rfl ⟨⟨es.map D.im,by simp[Az]⟩,A6 (Bu (A6 (A4 rfl (A6 (A4 rfl (A6 (AV ?_)))))))⟩))
    refine A6 (AL (A4 rfl (A4 rfl (Ah (ds:=rr.map B0) (e:=B0 rr[k]) (sv (hl e6)) (EI rfl (by simp[k1])) ?_))))
    refine A6 (AL (A4 rfl (AL (A4 rfl (As (Dz (Ah (ds:=rr.map B0) (e:=B0 rr[k + 1]) (sv (hl e6)) (EI (k:=k + 1) (by omega) (by simp[k2])) (AB ⟨by simp[B0,Aj],(UG (rb k k1).1 (rb k k1).2 (rb (k + 1) k2).1 (rb (k + 1) k2).2).mono ?_⟩))))))))
    rintro d x ⟨p,rfl⟩
    refine⟨_,rfl,AB ⟨Ed,AB ?_⟩⟩
    refine FF hn (Cs (by simp;omega)) ⟨?_,?_⟩
    . intro q hq;rw[List.mem_singleton]at hq;subst hq
      rw[List.set_append_right _ _ (Nat.le_refl _)]
      exact hl ei2
    . refine .mk (k + 1) (Db (ns ++ T[k].map λ v:Nat=>(v:Int))) (es ++ [.tup [.int (a:Int),.tup ((Db (ns ++ T[k].map λ v:Nat=>(v:Int))).map I.int),.tup [.int p.1,.int p.2]]]) _ _ rfl (by omega) (by rw[(Iy _).length_eq,l2];simp) (by simp[le]) rfl ?_
      simp[Ai,BZ,Aj]
  . intro ls hd' hI
    obtain⟨k,ns,es,z9,z10,er,hk,ln,le,rfl,rfl⟩:=hI
    exact AH (B9 (A4 rfl ⟨_,es,rfl,hn,by omega⟩))
end
section
variable{c:Int}{ws:List (Int × Int)}{P:List (Nat × Nat)}{up:Nat->Option Nat}{pos:Nat->Nat}
inductive I_o1(bs:List (List Nat))(y:Hd)(r:List D)(ls:Ls)(hd:Hd):Prop
  | mk (dn rest:List (List Nat)) (z0 z1:Option D) (e:bs=dn ++ rest) (er:r=rest.map Ac) (el:ls=[z0,z1]) (eh:hd=y ++ [.lst (Ag dn.flatten)]):I_o1 bs y r ls hd
inductive I_o2(B pre:List Nat)(y:Hd)(r:List D)(ls:Ls)(hd:Hd):Prop
  | mk (d2 r2:List Nat) (z1:Option D) (e:B=d2 ++ r2) (er:r=Ag r2) (el:ls=[some (Ac B),z1]) (eh:hd=y ++ [.lst (Ag (pre ++ d2))]):I_o2 B pre y r ls hd
inductive I_p1(c:Int)(ws:List (Int × Int))(P:List (Nat × Nat))(H:Hd)(r:List D)(ls:Ls)(hd:Hd):Prop
  | mk (k:Nat) (z0 z1:Option D) (es:List I) (g:Hd) (er:r=Ag (List.range' k (ws.length - k))) (hk:k <= ws.length) (el:ls=[z0,z1,some (.im (Av c ws)),some (.im (fI P))]) (eh:hd=H ++ [.lst (es.map D.im)] ++ g) (le:es.length <= 8 * k):I_p1 c ws P H r ls hd
inductive I_p2(c:Int)(ws:List (Int × Int))(P:List (Nat × Nat))(a:Nat)(fs:List I)(pre:Nat)(H:Hd)(g:Hd)(r:List D)(ls:Ls)(hd:Hd):Prop
  | mk (d2 r2:List I) (z1:Option D) (es:List I) (e:fs=d2 ++ r2) (er:r=r2.map D.im) (el:ls=[some (.im (.int (a:Int))),z1,some (.im (Av c ws)),some (.im (fI P))]) (eh:hd=H ++ [.lst (es.map D.im)] ++ g) (le:es.length=pre + d2.length):I_p2 c ws P a fs pre H g r ls hd
theorem TN(m:Nat):∀ j:Nat,Ao (j:Int) m=Ag (List.range' j m):=by
  induction m with
  | zero=>intro j;rfl
  | succ m ih=>
    intro j
    rw[Ao,List.range'_succ,Ag,List.map_cons]
    have:=ih (j + 1)
    rw[show((j:Int) + 1)=((j + 1:Nat):Int) by omega,this]
theorem PH(L:List Nat):Ai (Ag L)=.im (CM L):=by
  show Ai (L.map λ k:Nat=>D.im (.int (k:Int)))=_
  rw[<- Fw,CZ]
theorem N5(W:WOk c ws)(F:Fo ws.length P up pos):WF CD [.im (Av c ws),.im (fI P)] [] λ d x=>∃ (bs:List (List Nat)) (es:List I),d=.im (.tup [CM bs.flatten,.tup es])/\Line up pos (lf ws) (wf ws) (EN ws.length P) bs:=by
  have n8:=W.n8
  unfold CD
  refine BP rfl ?_
  refine AM (Aq (IL (Up (GK (A6 (A4 rfl (A6 (A4 rfl (AB ⟨by simp,(Rx W F).mono ?_⟩)))))))))
  rintro d y0 ⟨bs,i,rfl,ei,L⟩
  have lb:=HZ F (GN F).lt L
  have fl8:=lb.fl;have le8:=lb.le
  have ei':(([]:Hd) ++ y0.map (shO ([]:Hd).length))[i + ([]:Hd).length]? = some (.lst (bs.map Ac)):=by
    rw[List.nil_append,List.length_nil,Nat.add_zero,List.getElem?_map,ei,Option.map_some];simp only[shO];rw[LJ]
  refine .inr ⟨_,_,rfl,ei',?_⟩
  generalize (([]:Hd) ++ y0.map (shO ([]:Hd).length))=y at ei' ⊢
  refine Fm (I_o1 bs y) (.mk [] bs none none rfl rfl rfl rfl) ?_ ?_
  . intro d r ls hd hI
    obtain⟨dn,rest,z0,z1,e,er,rfl,rfl⟩:=hI
    cases rest with
    | nil=>cases er
    | cons B rest=>
    obtain⟨rfl,rfl⟩:=List.cons.inj er
    have fdn:dn.flatten.length + B.length <= 8:=by
      have:=fl8
      rw[e,List.flatten_append,List.flatten_cons,List.length_append,List.length_append]at this
      omega
    refine⟨[some (Ac B),z1],rfl,B6 ?_⟩
    rw[if_pos rfl]
    refine Ds (A4 rfl ⟨_,rfl,?_⟩)
    rw[Fw]
    refine Fp (I_o2 B dn.flatten y) (.mk [] B z1 rfl rfl rfl (by rw[List.append_nil])) ?_ ?_
    . intro d r ls hd hI
      obtain⟨d2,r2,z1,e2,er2,rfl,rfl⟩:=hI
      cases r2 with
      | nil=>cases er2
      | cons v r2=>
      obtain⟨rfl,rfl⟩:=List.cons.inj er2
      have l2:=congrArg List.length e2
      simp only[List.length_append,List.length_cons]at l2
      refine⟨[some (Ac B),some (.im (.int (v:Int)))],rfl,B6 ?_⟩
      rw[if_pos rfl]
      refine A4 rfl (FF hn (Cs (by rw[List.length_map,List.length_append];omega)) ⟨Ab _,.mk (d2 ++ [v]) r2 _ (by rw[e2];simp) rfl rfl ?_⟩)
      simp[Ag]
    . intro ls hd hI
      obtain⟨d2,r2,z1,e2,er2,rfl,rfl⟩:=hI
      have:r2=[]:=by cases r2 with
        | nil=>rfl
        | cons _ _=>cases er2
      subst this
      rw[List.append_nil]at e2
      subst e2
      refine⟨?_,.mk (dn ++ [B]) rest _ _ (by rw[e];simp) rfl rfl (by simp)⟩
      intro p hp;rw[List.mem_singleton]at hp;subst hp;exact hl ei'
  intro ls hd hI
  obtain⟨dn,rest,z0,z1,e,er,rfl,rfl⟩:=hI
  have:rest=[]:=by cases rest with
    | nil=>rfl
    | cons _ _=>cases er
  subst this
  rw[List.append_nil]at e
  subst e
  refine AH (AM (Aq (IL (FG (A6 (Cj (A6 (A4 rfl (AB ?_)))))))))
  refine Er (ds:=((ws.map (wk c)).map Bj).map D.im) (z:=.im (.int (ws.length:Int))) rfl (by simp[CN]) ?_
  refine AB ⟨_,rfl,Dd (by omega) (by omega),?_⟩
  have eo:(y ++ [MO.lst (Ag bs.flatten)])[y.length]? = some (.lst (Ag bs.flatten)):=hn
  generalize hH:y ++ [MO.lst (Ag bs.flatten)]=H at eo ⊢
  have er0:Ao 0 (ws.length:Int).toNat=Ag (List.range' 0 (ws.length - 0)):=by rw[Int.toNat_natCast];exact TN ws.length 0
  dsimp only
  rw[er0]
  refine Fm (I_p1 c ws P H) (.mk 0 none none [] [] rfl (by omega) rfl (by simp) (by simp)) ?_ ?_
  . intro d r ls hd hI
    obtain⟨k,z0,z1,es,g,er,hk,rfl,rfl,le⟩:=hI
    obtain⟨m,hm⟩:∃ m,ws.length - k=m + 1:=by
      cases q:ws.length - k with
      | zero=>rw[q]at er;cases er
      | succ m=>exact⟨m,rfl⟩
    rw[hm,List.range'_succ,Ag,List.map_cons]at er
    obtain⟨rfl,rfl⟩:=List.cons.inj er
    have em:m=ws.length - (k + 1):=by omega
    refine⟨[some (.im (.int (k:Int))),z1,some (.im (Av c ws)),some (.im (fI P))],rfl,B6 ?_⟩
    rw[if_pos rfl]
    refine Up (GK (A6 (A4 rfl (A6 (A4 rfl (A6 (A4 rfl (AB ⟨by simp,(Rc W F (by omega:k < ws.length)).mono ?_⟩))))))))
    rintro d x ⟨j,fs,rfl,ej,l8⟩
    generalize hw:(H ++ [MO.lst (es.map D.im)] ++ g).length=w
    have ej':(H ++ [MO.lst (es.map D.im)] ++ g ++ x.map (shO w))[j + w]? = some (.lst (fs.map D.im)):=by
      rw[List.getElem?_append_right (by omega),hw,Nat.add_sub_cancel,List.getElem?_map,ej,Option.map_some];simp only[shO];rw[XA]
    refine .inr ⟨_,_,rfl,ej',?_⟩
    have ea:H ++ [MO.lst (es.map D.im)] ++ g ++ x.map (shO w)=H ++ [MO.lst (es.map D.im)] ++ (g ++ x.map (shO w)):=by rw[List.append_assoc]
    have gk:∀ es':List I,GOk (H ++ [MO.lst (es'.map D.im)] ++ (g ++ x.map (shO w))) [(j + w,fs.map D.im)]:=by
      intro es' p hp
      rw[List.mem_singleton]at hp;subst hp
      show(H ++ [MO.lst (es'.map D.im)] ++ (g ++ x.map (shO w)))[j + w]? = _
      have lw:H.length + 1 <= w:=by rw[<- hw];simp only[List.length_append,List.length_cons,List.length_nil];omega
      rw[ea]at ej'
      rw[List.getElem?_append_right (by simp;omega)]at ej' ⊢
      simpa using ej'
    rw[ea]
    refine Fp (I_p2 c ws P k fs es.length H (g ++ x.map (shO w))) (.mk [] fs z1 es rfl rfl rfl rfl (by simp)) ?_ ?_
    . intro d r ls hd hI
      obtain⟨d2,r2,z1,es',e2,er2,rfl,rfl,le2⟩:=hI
      cases r2 with
      | nil=>cases er2
      | cons v r2=>
      obtain⟨rfl,rfl⟩:=List.cons.inj er2
      have l2:=congrArg List.length e2
      simp only[List.length_append,List.length_cons]at l2
      refine⟨[some (.im (.int (k:Int))),some (.im v),some (.im (Av c ws)),some (.im (fI P))],rfl,B6 ?_⟩
      rw[if_pos rfl]
      have e9:(H ++ [MO.lst (es'.map D.im)] ++ (g ++ x.map (shO w))).set H.length (.lst (es'.map D.im ++ [.im v]))=H ++ [MO.lst ((es' ++ [v]).map D.im)] ++ (g ++ x.map (shO w)):=by simp
      refine A4 rfl (FF (hl hn) (Cs (by rw[List.length_map];omega)) ?_)
      rw[e9]
      exact⟨gk _,.mk (d2 ++ [v]) r2 _ (es' ++ [v]) (by rw[e2];simp) rfl rfl rfl (by simp[le2];omega)⟩
    . intro ls hd hI
      obtain⟨d2,r2,z1,es',e2,er2,rfl,rfl,le2⟩:=hI
      have:r2=[]:=by cases r2 with
        | nil=>rfl
        | cons _ _=>cases er2
      subst this
      rw[List.append_nil]at e2
      subst e2
      exact⟨Ab _,.mk (k + 1) _ _ es' _ (by rw[em]) (by omega) rfl rfl (by omega)⟩
  intro ls hd hI
  obtain⟨k,z0,z1,es,g,er,hk,rfl,rfl,le⟩:=hI
  refine AH (B9 (Bu (A6 (Cj (A6 (A4 rfl (AB (Er (ds:=Ag bs.flatten) (sv (hl (hl eo))) rfl ?_))))))))
  refine A6 (Cj (A6 (A4 rfl (AB (Er (ds:=es.map D.im) (sv (hl hn)) rfl (AB ⟨DW,bs,es,?_,L⟩))))))
  rw[PH,CZ]
  rfl
end
open PySem L2 Bd Bt Fs Sm
theorem Uo{ma mb:MI}{ls:Ls}{hd:Hd}{QI:List D × Gd->Hd->Prop}(h:WI ma ls hd λ p x=>WI mb ls x λ q y=>GOk y p.2/\QI (List.zipWith (λ x y=>Ai [x,y]) p.1 q.1,p.2 ++ q.2) y):WI (HQ ma mb) ls hd QI:=by
  obtain⟨p,x,e1,q,y,e2,g,k⟩:=h
  exact⟨_,_,by simp only[HQ,e1,Option.bind_some,e2,g,if_true],k⟩
theorem Iv(f:Nat->Int):∀ ks:List Nat,(ks.map f).sum=sm f ks
  | []=>rfl
  | k :: r=>by simp[Sm.sm,Iv f r]
noncomputable def prs:Nat->List (Nat × Nat)
  | 0=>[]
  | n + 1=>prs n ++ (List.range n).map λ i=>(i,n)
theorem Ox:∀ n,∀ p ∈ prs n,p.1 < n/\p.2 < n
  | 0,p,h=>by simp[prs]at h
  | n + 1,p,h=>by
    rw[prs]at h
    rcases List.mem_append.mp h with h|h
    . have:=Ox n p h;omega
    . obtain⟨i,hi,rfl⟩:=List.mem_map.mp h
      simp at hi;dsimp only;omega
theorem Jo:∀ n,(prs n).length <= n * n
  | 0=>by simp[prs]
  | n + 1=>by
    have:=Jo n
    simp only[prs,List.length_append,List.length_map,List.length_range]
    rw[Nat.succ_mul,Nat.mul_succ];omega
theorem N3(g:Nat->Nat->Int):∀ n,((prs n).map λ p=>g p.1 p.2).sum=ps g (List.range n)
  | 0=>rfl
  | n + 1=>by
    rw[prs,List.map_append,List.sum_append,N3 g n,List.range_succ,N2,List.map_map]
    congr 1
    exact Iv (λ i=>g i n) (List.range n)
noncomputable abbrev prD(p:Nat × Nat):D:=.im (.tup [.int (p.1:Int),.int (p.2:Int)])
theorem KJ(ns:List Int):Em (intD ns)=some (.im (.int ns.sum)):=by
  have:BY (intD ns)=some ns:=by
    induction ns with
    | nil=>rfl
    | cons n r ih=>simp[intD]at ih ⊢
  unfold Em
  rw[this];rfl
theorem P6{c:Int}{ws:List (Int × Int)}(W:WOk c ws):WF DH [.im (.int c),.mu 0,.mu 1] [.lst (intD (ws.map (·.1))),.lst (intD (ws.map (·.2)))] λ d x=>d=.im (.int (least (lf ws) (wf ws) c ws.length)):=by
  have n8:=W.n8
  have la:∀ k,k < ws.length->atI (intD (ws.map (·.1))) (k:Int)=some (.im (.int (lf ws k))):=λ k hk=>EI rfl (by simp[intD,lf,hk])
  have wa:∀ k,k < ws.length->atI (intD (ws.map (·.2))) (k:Int)=some (.im (.int (wf ws k))):=λ k hk=>EI rfl (by simp[intD,wf,hk])
  unfold DH
  refine BP rfl ?_
  refine AM (Aq (CF (B8 (Uo (DQ (A4 rfl ⟨0,_,rfl,rfl,DQ (A4 rfl ⟨1,_,rfl,rfl,?_⟩)⟩))))))
  refine⟨by intro p hp;rw[List.mem_singleton]at hp;subst hp;rfl,?_⟩
  dsimp only
  have ez:List.zipWith (λ x y=>Ai [x,y]) (intD (ws.map (·.1))) (intD (ws.map (·.2)))=ws.map Aj:=by
    simp only[intD,List.map_map]
    rw[List.zipWith_map]
    have:∀ l:List (Int × Int),List.zipWith (λ a b:Int × Int=>Ai [((λ i=>D.im (.int i)) ∘ λ x=>x.1) a,((λ i=>D.im (.int i)) ∘ λ x=>x.2) b]) l l=l.map Aj:=by
      intro l
      induction l with
      | nil=>rfl
      | cons p r ih=>rw[List.zipWith_cons_cons,List.map_cons,ih];rfl
    exact this ws
  rw[ez]
  refine⟨An (by simp;omega),?_⟩
  have gk:GOk [.lst (intD (ws.map (·.1))),.lst (intD (ws.map (·.2)))] ([(0,intD (ws.map (·.1)))] ++ [(1,intD (ws.map (·.2)))]):=by
    intro p hp
    simp only[List.mem_append,List.mem_singleton]at hp
    rcases hp with rfl|rfl <;> rfl
  refine C1 Aj (λ p=>some (.im (.int (p.2 * (c + p.1))))) (λ _ ls=>∃ x y,ls=[some x,some y,some (.im (.int c))]) _ gk ?_ ?_
  . rintro p hp ls hls
    have b:=W.each p hp
    refine⟨[some (.im (.int p.1)),some (.im (.int p.2)),some (.im (.int c))],by rcases hls with rfl|⟨_,x,y,rfl⟩ <;> rfl,⟨_,_,rfl⟩,B6 ⟨rfl,?_⟩⟩
    rw[if_pos rfl]
    exact⟨_,rfl,AL (A4 rfl (AL (A4 rfl (A4 rfl (Dz (Dy (Bb (by omega) (by omega)) ⟨rfl,rfl⟩))))))⟩
  have e1:(ws.filterMap λ p=>some (D.im (.int (p.2 * (c + p.1)))))=intD (ws.map λ p=>p.2 * (c + p.1)):=by simp[intD]
  rw[e1]
  refine⟨_,KJ _,AH ?_⟩
  have es:(ws.map λ p=>p.2 * (c + p.1)).sum=sm (λ k=>wf ws k * (c + lf ws k)) (List.range ws.length):=by
    rw[<- Iv]
    congr 1
    refine List.ext_getElem? λ i=>?_
    by_cases hi:i < ws.length
    . simp[hi,lf,wf]
    . rw[List.getElem?_eq_none (by simp;omega),List.getElem?_eq_none (by simp;omega)]
  rw[es]
  change WS _ [some (.im (.int c)),some (.mu 0),some (.mu 1),some (.im (.int (sm (λ k=>wf ws k * (c + lf ws k)) (List.range ws.length)))),none] _ _
  generalize hal:Sm.sm (λ k=>wf ws k * (c + lf ws k)) (List.range ws.length)=alone
  refine AM (Aq (IL (FG (A6 (Cj (A6 (A4 rfl (AB (Er (ds:=intD (ws.map (·.1))) (z:=.im (.int (ws.length:Int))) rfl (by simp[CN]) ?_)))))))))
  refine AB ⟨_,rfl,Dd (by omega) (by omega),?_⟩
  rw[Int.toNat_natCast]
  refine Fm (λ r ls hd=>∃ (j:Nat) (z0 z1:Option D),r=Ao (j:Int) (ws.length - j)/\j <= ws.length/\ls=[z0,z1]/\hd=[.lst (intD (ws.map (·.1))),.lst (intD (ws.map (·.2))),.lst ((prs j).map prD)]) ⟨0,none,none,rfl,by omega,rfl,rfl⟩ ?_ ?_
  . rintro d r ls hd ⟨j,z0,z1,er,hj,rfl,rfl⟩
    obtain⟨m,hm⟩:∃ m,ws.length - j=m + 1:=by
      cases q:ws.length - j with
      | zero=>rw[q]at er;cases er
      | succ m=>exact⟨m,rfl⟩
    rw[hm,Ao]at er
    obtain⟨rfl,rfl⟩:=List.cons.inj er
    refine⟨[some (.im (.int (j:Int))),z1],rfl,B6 ?_⟩
    rw[if_pos rfl]
    refine FG (A6 (A4 rfl (AB ⟨_,rfl,Dd (by omega) (by omega),?_⟩)))
    rw[Int.toNat_natCast]
    refine Fp (λ r ls hd=>∃ (i:Nat) (z1:Option D),r=Ao (i:Int) (j - i)/\i <= j/\ls=[some (.im (.int (j:Int))),z1]/\hd=[.lst (intD (ws.map (·.1))),.lst (intD (ws.map (·.2))),.lst ((prs j ++ (List.range i).map λ i=>(i,j)).map prD)]) ⟨0,_,rfl,by omega,rfl,by simp⟩ ?_ ?_
    . rintro d r ls hd ⟨i,z1,er,hi,rfl,rfl⟩
      obtain⟨m',hm'⟩:∃ m,j - i=m + 1:=by
        cases q:j - i with
        | zero=>rw[q]at er;cases er
        | succ m=>exact⟨m,rfl⟩
      rw[hm',Ao]at er
      obtain⟨rfl,rfl⟩:=List.cons.inj er
      refine⟨[some (.im (.int (j:Int))),some (.im (.int (i:Int)))],rfl,B6 ?_⟩
      rw[if_pos rfl]
      refine Bu (A6 (A4 rfl (A6 (A4 rfl (AB ⟨DW,?_⟩)))))
      have pl:=Jo j
      have pl2:j * j <= 8 * 8:=Nat.mul_le_mul (by omega) (by omega)
      refine FF rfl (Cs (by simp;omega)) ?_
      refine⟨Ab _,i + 1,_,by rw[show((i:Int) + 1)=((i + 1:Nat):Int) by omega,show m'=j - (i + 1) by omega],by omega,rfl,?_⟩
      rw[List.range_succ]
      simp[prD,Ai,BZ]
    . rintro ls hd ⟨i,z1,er,hi,rfl,rfl⟩
      have hi':i=j:=by
        cases q:j - i with
        | zero=>omega
        | succ m=>rw[q]at er;cases er
      subst hi'
      exact⟨Ab _,i + 1,_,_,by rw[show((i:Int) + 1)=((i + 1:Nat):Int) by omega,show m=ws.length - (i + 1) by omega],by omega,rfl,rfl⟩
  . rintro ls hd ⟨j,z0,z1,er,hj,rfl,rfl⟩
    have hj':j=ws.length:=by
      cases q:ws.length - j with
      | zero=>omega
      | succ m=>rw[q]at er;cases er
    subst hj'
    refine AH ?_
    refine B9 (AL (A4 rfl (CF (B8 (DQ (A4 rfl ⟨2,_,rfl,rfl,?_⟩))))))
    have pl:=Jo ws.length
    have pl2:ws.length * ws.length <= 8 * 8:=Nat.mul_le_mul (by omega) (by omega)
    refine⟨An (by simp;omega),?_⟩
    refine C1 prD (λ p=>some (.im (.int (min (lf ws p.1 * wf ws p.2) (lf ws p.2 * wf ws p.1))))) (λ _ ls=>∃ x y,ls=[some x,some y,some (.mu 0),some (.mu 1)]) _ (by intro p hp;simp at hp;subst hp;rfl) ?_ ?_
    . rintro p hp ls hls
      obtain⟨h1,h2⟩:=Ox _ p hp
      have b1:=G0 W h1;have b2:=G0 W h2
      refine⟨[some (.im (.int (p.1:Int))),some (.im (.int (p.2:Int))),some (.mu 0),some (.mu 1)],by rcases hls with rfl|⟨_,x,y,rfl⟩ <;> rfl,⟨_,_,rfl⟩,B6 ⟨rfl,?_⟩⟩
      rw[if_pos rfl]
      refine⟨_,rfl,Cj (A6 (AL (AL (A4 rfl (A4 rfl (Ah rfl (la _ h1) ?_))))))⟩
      refine AL (A4 rfl (A4 rfl (Ah rfl (wa _ h2) (Dy (Bb (by omega) (by omega)) ?_))))
      refine A6 (AL (AL (A4 rfl (A4 rfl (Ah rfl (la _ h2) ?_)))))
      refine AL (A4 rfl (A4 rfl (Ah rfl (wa _ h1) (Dy (Bb (by omega) (by omega)) (AB (Hl ⟨rfl,rfl⟩))))))
    have e2:((prs ws.length).filterMap λ p=>some (D.im (.int (min (lf ws p.1 * wf ws p.2) (lf ws p.2 * wf ws p.1)))))=intD ((prs ws.length).map λ p=>min (lf ws p.1 * wf ws p.2) (lf ws p.2 * wf ws p.1)):=by simp[intD]
    rw[e2]
    refine⟨_,KJ _,Dz ?_⟩
    rw[N3 (λ x y=>min (lf ws x * wf ws y) (lf ws y * wf ws x)),<- hal]
    rfl
theorem GS{c:Int}{ws:List (Int × Int)}(W:WOk c ws):WF Cu [.im (Av c ws)] [] λ d x=>d=.im (.int (least (lf ws) (wf ws) c ws.length)):=by
  have n8:=W.n8
  unfold Cu
  refine BP rfl ?_
  refine AM (Aq (AV (A6 (A4 rfl (AB ⟨by simp,(Im W).mono ?_⟩)))))
  rintro d x rfl
  refine⟨_,rfl,AH ?_⟩
  refine B9 (DR (A6 (A4 rfl (A6 (BA (B8 (Ds (A4 rfl ⟨_,rfl,?_⟩))))))))
  rw[Il]
  refine⟨An (by simp;omega),?_⟩
  refine C1 (wkD c) (λ p=>some (.im (.int p.1))) (λ _ ls=>∃ x,ls=[some x]) _ (Ab _) ?_ ?_
  . rintro p hp ls hls
    refine⟨[some (wkD c p)],by rcases hls with rfl|⟨_,x,rfl⟩ <;> rfl,⟨_,rfl⟩,B6 ⟨rfl,?_⟩⟩
    rw[if_pos rfl]
    exact⟨_,rfl,AL (A4 rfl (As (Ah rfl (EJ _ _) ⟨rfl,rfl⟩)))⟩
  have e1:(ws.filterMap λ p=>some (D.im (.int p.1)))=intD (ws.map (·.1)):=by simp[intD]
  rw[e1]
  refine A6 (BA (B8 (Ds (A4 rfl ⟨_,rfl,?_⟩))))
  rw[Il]
  refine⟨An (by simp;omega),?_⟩
  refine C1 (wkD c) (λ p=>some (.im (.int p.2))) (λ _ ls=>∃ x,ls=[some x]) _ (Ab _) ?_ ?_
  . rintro p hp ls hls
    refine⟨[some (wkD c p)],by rcases hls with rfl|⟨_,x,rfl⟩ <;> rfl,⟨_,rfl⟩,B6 ⟨rfl,?_⟩⟩
    rw[if_pos rfl]
    refine⟨_,rfl,AV (A6 (A4 rfl (AB ⟨by simp[wkD,Bj],(Ku c p).mono ?_⟩)))⟩
    rintro d y rfl
    exact⟨_,rfl,rfl,rfl⟩
  have e2:(ws.filterMap λ p=>some (D.im (.int p.2)))=intD (ws.map (·.2)):=by simp[intD]
  rw[e2]
  refine AB ((P6 W).mono ?_)
  rintro d x rfl
  rfl
open PySem L2 Bd Bt Fs Sm
theorem Gf:F_run=Bd.F_run:=rfl
theorem WV:F_ends_of=Bd.F_ends_of:=rfl
theorem EG:F_worth=Bd.F_worth:=rfl
noncomputable abbrev Pc:=Nat × Int × Int
theorem JY:∀ (P:List Pc) (es:List Int) (k:Nat),k ∉ P.map (·.1)->(Cd es P)[k]? = es[k]?
  | [],es,k,_=>rfl
  | p :: r,es,k,h=>by
    simp only[List.map_cons,List.mem_cons,not_or]at h
    rw[Cd,JY r _ k h.2,List.getElem?_set_ne (λ q=>h.1 q.symm)]
theorem MC:∀ (P:List Pc) (es:List Int),(P.map (·.1)).Nodup->(∀ p ∈ P,p.1 < es.length)->∀ p ∈ P,(Cd es P)[p.1]? = some p.2.2
  | [],es,_,_,p,hp=>by simp at hp
  | q :: r,es,nd,hl,p,hp=>by
    simp only[List.map_cons,List.nodup_cons]at nd
    rw[Cd]
    rcases List.mem_cons.mp hp with rfl|hp
    . rw[JY r _ _ nd.1,List.getElem?_set_self (hl p (by simp))]
    . exact MC r _ nd.2 (λ x hx=>by simpa using hl x (by simp[hx])) p hp
theorem SF{c:Int}{ws:List (Int × Int)}{k:Nat}(hk:k < ws.length):(ws.map (wk c))[k]? = some (wk c (lf ws k,wf ws k)):=by simp[hk,lf,wf]
theorem LQ{c:Int}{ws:List (Int × Int)}{k:Nat}(hk:k < ws.length)(r:List Nat)(t:Int):DJ (ws.map (wk c)) (k :: r) t=(k,max t c,max t c + lf ws k) :: DJ (ws.map (wk c)) r (max t c + lf ws k):=by
  have h:(if t > c then t else c)=max t c:=by split <;> omega
  rw[DJ,SF hk]
  simp only[h]
theorem Ji{c:Int}{ws:List (Int × Int)}:∀ (ks:List Nat) (t:Int),(∀ k ∈ ks,k < ws.length)->(DJ (ws.map (wk c)) ks t).map (·.1)=ks
  | [],t,_=>rfl
  | k :: r,t,h=>by rw[LQ (h k (by simp)),List.map_cons,Ji r _ λ x hx=>h x (by simp[hx])]
theorem Mo{c:Int}{ws:List (Int × Int)}(W:WOk c ws):∀ (ks:List Nat) (t f:Int),(∀ k ∈ ks,k < ws.length)->f + ((DJ (ws.map (wk c)) ks t).map λ p=>wf ws p.1 * p.2.2).sum=cst (lf ws) (wf ws) ks (max t c) f
  | [],t,f,_=>by simp[DJ,cst]
  | k :: r,t,f,h=>by
    have hk:=h k (by simp)
    have b:=G0 W hk
    rw[LQ hk,List.map_cons,List.sum_cons,cst,<- Int.add_assoc]
    have ih:=Mo W r (max t c + lf ws k) (f + wf ws k * (max t c + lf ws k)) λ x hx=>h x (by simp[hx])
    rw[show max (max t c + lf ws k) c=max t c + lf ws k by omega]at ih
    exact ih
theorem Uv(w:Nat->Int)(es:List Int):∀ P:List Pc,(∀ p ∈ P,es[p.1]? = some p.2.2)->Sm.sm (λ k=>w k * (es[k]?).getD 0) (P.map (·.1))=(P.map λ p=>w p.1 * p.2.2).sum
  | [],_=>rfl
  | p :: r,h=>by
    simp only[List.map_cons,Sm.sm,List.sum_cons]
    rw[Uv w es r λ q hq=>h q (by simp[hq]),h p (by simp)]
    rfl
theorem Qh{c:Int}{ws:List (Int × Int)}(W:WOk c ws){ks:List Nat}(pm:ks.Perm (List.range ws.length)):(Dl (ws.map (wk c)) (Cd (List.replicate ws.length 0) (DJ (ws.map (wk c)) ks 0))).sum=cst (lf ws) (wf ws) ks c 0:=by
  have hk:∀ k ∈ ks,k < ws.length:=λ k hk=>by simpa using pm.mem_iff.mp hk
  have hf:=Ji (c:=c) ks 0 hk
  generalize hP:DJ (ws.map (wk c)) ks 0=P at *
  have hat:=MC P (List.replicate ws.length 0) (by rw[hf];exact pm.nodup_iff.mpr List.nodup_range) λ p hp=>by
    have:p.1 ∈ ks:=by rw[<- hf];exact List.mem_map.mpr ⟨p,hp,rfl⟩
    simpa using hk p.1 this
  have el:(Cd (List.replicate ws.length 0) P).length=ws.length:=by rw[Pj];simp
  generalize Cd (List.replicate ws.length 0) P=es at *
  have e1:Dl (ws.map (wk c)) es=(List.range ws.length).map λ k=>wf ws k * (es[k]?).getD 0:=by
    refine List.ext_getElem? λ i=>?_
    unfold Dl
    rw[List.getElem?_zipWith]
    by_cases hi:i < ws.length
    . rw[SF hi,List.getElem?_eq_getElem (show i < es.length by omega)]
      simp[hi,Cost.at,show i < es.length by omega]
    . rw[List.getElem?_eq_none (by simp;omega),List.getElem?_eq_none (show((List.range ws.length).map λ k=>wf ws k * (es[k]?).getD 0).length <= i by simp;omega)]
  have s1:=Uv (wf ws) es P hat
  rw[hf]at s1
  rw[e1,Iv,<- sm_perm _ pm,s1,<- hP]
  have:=Mo W ks 0 0 hk
  rw[show max (0:Int) c=c by have:=W.c0;omega,Int.zero_add]at this
  exact this
theorem Pn{ws:List (Int × Int)}{ks:List Nat}(W:WOk 0 ws)(hk:∀ k ∈ ks,k < ws.length) :
    WF GH [.im (Av 0 ws),.im (CM ks)] [] λ d x=>d=.im (.int (cst (lf ws) (wf ws) ks 0 0)):=by
  have n1:=W.n1
  unfold GH
  refine BP rfl ?_
  refine AM (Kp (Bu (A6 (As (A6 (As (AB ⟨DW,[some (.im (Av 0 ws)),some (.im (CM ks)),some (.im (.int 0)),some (.im (.int 0)),none],rfl,AH ?_⟩)))))))
  refine AM (Cw (Ds (A4 rfl ⟨_,rfl,?_⟩)))
  rw[show(ks.map λ k:Nat=>I.int (k:Int)).map D.im=Ag ks by simp[Ag]]
  refine DP (λ r ls hd=>∃ (dn rest:List Nat) (e f:Int) (z4:Option D),ks=dn ++ rest/\r=Ag rest/\cst (lf ws) (wf ws) ks 0 0=cst (lf ws) (wf ws) rest e f/\ls=[some (.im (Av 0 ws)),some (.im (CM ks)),some (.im (.int e)),some (.im (.int f)),z4]/\hd=[]) ?_ ?_ ?_
  . exact⟨[],ks,0,0,none,rfl,rfl,rfl,rfl,rfl⟩
  . rintro d r ls hd ⟨dn,rest,e,f,z4,ek,er,ec,rfl,rfl⟩
    cases rest with
    | nil=>cases er
    | cons u rest=>
      obtain⟨rfl,rfl⟩:=List.cons.inj er
      have hu:u < ws.length:=hk u (by rw[ek];simp)
      have hb:0 <= wf ws u/\wf ws u <= 1000000:=by
        have:=W.each ws[u] (List.getElem_mem hu)
        simp[wf,hu];omega
      refine⟨_,rfl,?_⟩
      dsimp only[List.set_cons_zero,List.set_cons_succ]
      repeat sizeOf_list_dec
      refine Ah rfl (Gy hu) ?_
      repeat sizeOf_list_dec
      refine Ah rfl (Gy hu) ?_
      repeat sizeOf_list_dec
      refine Dy (Bb (by dsimp only;omega) (by dsimp only;omega)) ?_
      repeat sizeOf_list_dec
      exact⟨Ab _,dn ++ [u],rest,_,_,_,by rw[ek];simp,rfl,by rw[ec];rfl,rfl,rfl⟩
  . rintro ls hd ⟨dn,rest,e,f,z4,ek,er,ec,rfl,rfl⟩
    have:rest=[]:=by cases rest with
      | nil=>rfl
      | cons _ _=>cases er
    subst this
    refine AH (B9 (A4 rfl ?_))
    rw[ec];rfl
theorem Ub{ws:List (Int × Int)}(W:WOk 0 ws):∀ w ∈ ws.map (wk 0),w.cost.wok:=by
  intro w hw
  obtain⟨p,hp,rfl⟩:=List.mem_map.mp hw
  have:=W.each p hp
  exact⟨this.2.2.1,this.2.2.2⟩
theorem Lz{ws:List (Int × Int)}{row:List Nat}(W:WOk 0 ws)(pm:row.Perm (List.range ws.length)):WF EK [.im (Av 0 ws),.im (CM row)] [] λ d x=>d=.im (.int (cst (lf ws) (wf ws) row 0 0)):=by
  have n8:=W.n8
  have rl':row.length=ws.length:=by simpa using pm.length_eq
  have hrow:∀ k ∈ row,k < ws.length:=λ k hk=>by simpa using pm.mem_iff.mp hk
  unfold EK
  refine BP rfl ?_
  obtain⟨g1,eg1⟩:=V2 (ws.map (wk 0)) row (by simpa using hrow) (by omega)
  have hfst:=Ji (c:=0) row 0 hrow
  obtain⟨g2,eg2⟩:=OA (ws.map (wk 0)) (DJ (ws.map (wk 0)) row 0) (λ p hp=>by
    have:p.1 ∈ row:=by rw[<- hfst];exact List.mem_map.mpr ⟨p,hp,rfl⟩
    simpa using hrow p.1 this) (by simp;omega)
  have eg3:=OR (ws.map (wk 0)) (Cd (List.replicate (ws.map (wk 0)).length 0) (DJ (ws.map (wk 0)) row 0)) (Ub W) (by simp;omega)
  refine B9 (AV (A6 (A4 rfl (A6 (AV ?_)))))
  refine A6 (A4 rfl (A6 (AV ?_)))
  refine A6 (A4 rfl (A6 (A4 rfl (AB ⟨by simp,WP.eq (Gf ▸ eg1) ⟨_,rfl,?_⟩⟩))))
  refine AB ⟨by simp,WP.eq (WV ▸ eg2) ⟨_,rfl,?_⟩⟩
  refine A6 (As (AB ⟨by simp,WP.eq (EG ▸ eg3) ⟨_,rfl,?_⟩⟩))
  have rc:=Qh W pm
  rw[List.length_map,rc]
inductive I_d1(n:Nat)(r:List D)(ls:Ls)(hd:Hd):Prop
  | mk (left seq:List Nat) (k:Nat) (a b:MO) (z:Option D) (er:r=Ao (k:Int) (n - k)) (hk:k <= n) (el:ls=[some (.mu 1),some (.im (.int (n:Int))),some (.mu 2),some (.mu 3),z]) (eh:hd=[a,b,.lst (Ag left),.lst (Ag seq)]) (hT:T 0 a b) (ll:left.length=n - k) (pm:(seq ++ left).Perm (List.range n)):I_d1 n r ls hd
theorem SJ{n:Nat}(n8:n <= 8)(a b:MO)(hT:T 0 a b):WF IC [.mu 1,.im (.int (n:Int))] [a,b] λ d x=>∃ i a' b' g,d=.im i/\(∃ o:List Nat,i=CM o/\o.Perm (List.range n))/\T 0 a' b'/\x=a' :: b' :: g:=by
  unfold IC
  refine BP rfl ?_
  refine AM (Fj (A6 (BA (Sz rfl (Qp (by omega) (by omega)) (A6 (BA (Cy (AB ⟨DX,AB ⟨rfl,AH ?_⟩⟩))))))))
  rw[Int.toNat_natCast,J3]
  refine AM (Cw (FG (A6 (A4 rfl (AB ⟨_,rfl,Dd (by omega) (by omega),?_⟩)))))
  rw[Int.toNat_natCast]
  refine DP (I_d1 n) (.mk (List.range n) [] 0 a b none (by simp) (by omega) rfl rfl hT (by simp) (by simp)) ?_ ?_
  . intro d r ls hd hI
    obtain⟨left,seq,j,a,b,z,er,hj,rfl,rfl,hT,ll,pm⟩:=hI
    obtain⟨m,hm⟩:∃ m,n - j=m + 1:=by
      cases q:n - j with
      | zero=>rw[q]at er;cases er
      | succ m=>exact⟨m,rfl⟩
    rw[hm,Ao]at er
    obtain⟨rfl,rfl⟩:=List.cons.inj er
    have ej:((j:Int) + 1)=((j + 1:Nat):Int):=by omega
    have em:m=n - (j + 1):=by omega
    have sl:seq.length + left.length=n:=by simpa using pm.length_eq
    refine⟨_,rfl,?_⟩
    dsimp only[List.set_cons_zero,List.set_cons_succ]
    repeat sizeOf_list_dec
    refine tap.draw (many:=(left.length:Int)) (rest:=[.lst (Ag left),.lst (Ag seq)]) (n:=0) hT (by simp[CN]) (by omega) (by omega) λ r a b hT pr qr=>?_
    repeat sizeOf_list_dec
    have hr:r.toNat < left.length:=by omega
    have e1:left[r.toNat]? = some left[r.toNat]:=by simp[hr]
    refine Q8 rfl (Dd (by omega) (by omega)) (UQ (n:=(Ag left).length) pr (by simp;omega)) (by simp[e1];rfl) ?_
    repeat sizeOf_list_dec
    refine FF rfl (Cs (by simp;omega)) ?_
    have er2:(Ag left).eraseIdx r.toNat=Ag (left.eraseIdx r.toNat):=KL _ _ _
    have es:Ag seq ++ [D.im (.int ((left[r.toNat]:Nat):Int))]=Ag (seq ++ [left[r.toNat]]):=by simp[Ag]
    refine⟨Ab _,.mk (left.eraseIdx r.toNat) (seq ++ [left[r.toNat]]) (j + 1) a b _ (by rw[ej,em]) (by omega) rfl ?_ hT (by rw[List.length_eraseIdx,if_pos hr];omega) ((P3 e1).trans pm)⟩
    rw[<- er2,<- es]
    rfl
  . intro ls hd hI
    obtain⟨left,seq,j,a,b,z,er,hj,rfl,rfl,hT,ll,pm⟩:=hI
    have hj':j=n:=by
      cases q:n - j with
      | zero=>omega
      | succ m=>rw[q]at er;cases er
    have l0:left=[]:=List.length_eq_zero_iff.mp (by omega)
    subst l0
    rw[List.append_nil]at pm
    refine AH (B9 (Cj (A6 (A4 rfl (AB (Er (ds:=Ag seq) rfl rfl ⟨CM seq,a,b,_,PH seq,⟨seq,rfl,pm⟩,hT,rfl⟩))))))
noncomputable abbrev cs(q:Nat × Nat):Int × Int:=((q.1:Int),(q.2:Int))
theorem Mn:∀ {P:List (Nat × Nat)},(P.map (·.2)).Nodup->∀ q ∈ P,∀ q' ∈ P,q.2=q'.2->q=q'
  | [],_,q,h,_,_,_=>by cases h
  | x :: r,nd,q,h,q',h',e=>by
    rw[List.map_cons,List.nodup_cons]at nd
    rcases List.mem_cons.mp h with e1|g
    . rcases List.mem_cons.mp h' with e2|g'
      . rw[e1,e2]
      . exact absurd (List.mem_map.mpr ⟨q',g',by rw[<- e,e1]⟩) nd.1
    . rcases List.mem_cons.mp h' with e2|g'
      . exact absurd (List.mem_map.mpr ⟨q,g,by rw[e,e2]⟩) nd.1
      . exact Mn nd.2 q g q' g' e
noncomputable def upF(P:List (Nat × Nat))(b:Nat):Option Nat:=(P.find? λ q=>q.2 == b).map (·.1)
theorem Hm{P:List (Nat × Nat)}(nd:(P.map (·.2)).Nodup)(a b:Nat):upF P b=some a ↔ (a,b) ∈ P:=by
  unfold upF
  constructor
  . intro h
    obtain⟨q,e,e2⟩:=Option.map_eq_some_iff.mp h
    have h1:=List.mem_of_find?_eq_some e
    have h2:=List.find?_some e
    simp at h2
    obtain⟨x,y⟩:=q
    simp at h2 e2
    subst h2;subst e2
    exact h1
  . intro h
    cases e:P.find? λ q=>q.2 == b with
    | none=>have:=List.find?_eq_none.mp e _ h;simp at this
    | some q=>
      have h1:=List.mem_of_find?_eq_some e
      have h2:=List.find?_some e
      simp at h2
      have:=Mn nd q h1 (a,b) h h2
      rw[this];rfl
noncomputable def Al(seq:List Nat)(P:List (Nat × Nat)):Prop:=∀ q ∈ P,∃ i j:Nat,i < j/\seq[i]? = some q.1/\seq[j]? = some q.2
theorem G8{seq:List Nat}(nd:seq.Nodup){j v:Nat}(e:seq[j]? = some v):seq.idxOf v=j:=by
  obtain⟨hj,rfl⟩:=List.getElem?_eq_some_iff.mp e
  exact nd.idxOf_getElem j hj
theorem Sf{n:Nat}{seq:List Nat}{P:List (Nat × Nat)}(n8:n <= 8)(pm:seq.Perm (List.range n))(nd:(P.map (·.2)).Nodup)(al:Al seq P):Fo n P (upF P) (λ v=>seq.idxOf v):=by
  have sl:seq.length=n:=by simpa using pm.length_eq
  have snd:seq.Nodup:=pm.nodup_iff.mpr List.nodup_range
  have hin:∀ {i v:Nat},seq[i]? = some v->v < n:=λ e=>by simpa using pm.mem_iff.mp (List.mem_of_getElem? e)
  refine⟨n8,λ q hq=>?_,nd,Hm nd,λ v u e=>?_,λ v hv=>?_⟩
  . obtain⟨i,j,_,e1,e2⟩:=al q hq
    exact⟨hin e1,hin e2⟩
  . obtain⟨i,j,h,e1,e2⟩:=al _ ((Hm nd u v).mp e)
    rw[G8 snd e1,G8 snd e2];exact h
  . have:=List.idxOf_lt_length_iff.mpr (pm.mem_iff.mpr (by simpa using hv:v ∈ List.range n))
    omega
theorem Ob(P:List (Nat × Nat)):∃ P':List (Nat × Nat),P'.Perm P/\Et (P.map cs)=P'.map cs:=by
  refine⟨(Et (P.map cs)).map λ p=>(p.1.toNat,p.2.toNat),?_,?_⟩
  . have:=(Es (P.map cs)).map λ p:Int × Int=>(p.1.toNat,p.2.toNat)
    refine this.trans ?_
    rw[List.map_map]
    have e:P.map ((λ p:Int × Int=>(p.1.toNat,p.2.toNat)) ∘ cs)=P:=by
      conv=>rhs;rw[<- List.map_id P]
      exact List.map_congr_left λ q _=>by simp[cs]
    rw[e]
  . rw[List.map_map]
    conv=>lhs;rw[<- List.map_id (Et (P.map cs))]
    refine List.map_congr_left λ p hp=>?_
    obtain⟨q,_,rfl⟩:=List.mem_map.mp ((Es _).mem_iff.mp hp)
    simp[cs]
theorem Pz{F:List D->Hd->Option (D × Hd)}{m:MA}{ls:Ls}{hd:Hd}{QE:D->Hd->Prop}(h:WA m ls hd λ ds x=>∃ (a b:MO) (rest:Hd) (as:List D) (R:I->Prop),x=a :: b :: rest/\ds=.mu 1 :: as/\T 0 a b/\BT 2 as=true/\(∀ a b,T 0 a b->WF F (.mu 1 :: as) [a,b] λ d x=>∃ i a' b' g,d=.im i/\R i/\T 0 a' b'/\x=a' :: b' :: g)/\∀ i a' b',T 0 a' b'->R i->QE (.im i) (a' :: b' :: rest)):WE (AK 2 F m) ls hd QE:=by
  obtain⟨ds,x,e,a,b,rest,as,R,rfl,rfl,hT,hc,hF,k⟩:=h
  exact tap.call (n:=0) (c:=0) hT e hc hF k
section
variable{c:Int}{ws:List (Int × Int)}{P:List (Nat × Nat)}{up:Nat->Option Nat}{pos:Nat->Nat}
theorem Og(F:Fo ws.length P up pos):∀ k v,pos v <= k->v < ws.length->∃ a ∈ EN ws.length P,Anc up a v:=by
  intro k
  induction k with
  | zero=>
    intro v hk hv
    cases e:up v with
    | none=>exact⟨v,List.mem_filter.mpr ⟨by simpa using hv,decide_eq_true λ h=>by
        obtain⟨q,hq,rfl⟩:=List.mem_map.mp h
        have:=(F.hup q.1 q.2).mpr hq
        rw[e]at this;cases this⟩,.refl _⟩
    | some u=>have:=F.dn _ _ e;omega
  | succ k ih=>
    intro v hk hv
    cases e:up v with
    | none=>exact⟨v,List.mem_filter.mpr ⟨by simpa using hv,decide_eq_true λ h=>by
        obtain⟨q,hq,rfl⟩:=List.mem_map.mp h
        have:=(F.hup q.1 q.2).mpr hq
        rw[e]at this;cases this⟩,.refl _⟩
    | some u=>
      have:=F.dn _ _ e
      obtain⟨a,ha,h⟩:=ih u (by omega) (F.lt _ ((F.hup u v).mp e)).1
      exact⟨a,ha,.step h e⟩
theorem N6{A:List Nat}{n:Nat}(nd:A.Nodup)(h:∀ v,v ∈ A ↔ v < n):A.Perm (List.range n):=by
  rw[List.perm_ext_iff_of_nodup nd List.nodup_range]
  intro v;rw[h];simp
end
noncomputable abbrev sw(p:Int × Int):Int × Int:=(p.2,p.1)
noncomputable abbrev sn(q:Nat × Nat):Nat × Nat:=(q.2,q.1)
noncomputable def Con(seq:List Nat)(Q:List (Nat × Nat)):Prop:=∀ q ∈ Q,∃ i:Nat,seq[i]? = some q.1/\seq[i + 1]? = some q.2
theorem Hy{ps:List (Int × Int)}{k:Nat}(hk:k < ps.length):lf (ps.map sw) k=wf ps k/\wf (ps.map sw) k=lf ps k:=by simp[lf,wf,hk]
theorem Um{ps:List (Int × Int)}(W:WOk 0 ps)(h1:∀ p ∈ ps,1 <= p.2):WOk 0 (ps.map sw):=by
  refine⟨W.c0,W.c1,by simpa using W.n1,by simpa using W.n8,λ p hp=>?_⟩
  obtain⟨q,hq,rfl⟩:=List.mem_map.mp hp
  have:=W.each q hq;have:=h1 q hq
  dsimp only[sw];omega
section
variable{n:Nat}{seq:List Nat}{Q:List (Nat × Nat)}
theorem Wp(h:Con seq Q):Al seq Q:=λ q hq=>by obtain⟨i,e1,e2⟩:=h q hq;exact⟨i,i + 1,by omega,e1,e2⟩
theorem Wo(h:Con seq Q):Al seq.reverse (Q.map sn):=λ q hq=>by
  obtain⟨q,hq',rfl⟩:=List.mem_map.mp hq
  obtain⟨i,e1,e2⟩:=h q hq'
  have hi:=(List.getElem?_eq_some_iff.mp e2).1
  refine⟨seq.length - 1 - (i + 1),seq.length - 1 - i,by omega,?_,?_⟩
  . rw[List.getElem?_reverse (by omega),show seq.length - 1 - (seq.length - 1 - (i + 1))=i + 1 by omega];exact e2
  . rw[List.getElem?_reverse (by omega),show seq.length - 1 - (seq.length - 1 - i)=i by omega];exact e1
theorem Ue(nd:seq.Nodup)(h:Con seq Q):(∀ a b c,(a,b) ∈ Q->(a,c) ∈ Q->b=c)/\∀ a b c,(a,c) ∈ Q->(b,c) ∈ Q->a=b:=by
  constructor
  . intro a b c h1 h2
    obtain⟨i,e1,e2⟩:=h _ h1
    obtain⟨j,e3,e4⟩:=h _ h2
    have:i=j:=(G8 nd e1).symm.trans (G8 nd e3)
    subst this
    rw[e2]at e4;exact Option.some.inj e4
  . intro a b c h1 h2
    obtain⟨i,e1,e2⟩:=h _ h1
    obtain⟨j,e3,e4⟩:=h _ h2
    have:i + 1=j + 1:=(G8 nd e2).symm.trans (G8 nd e4)
    have:i=j:=by omega
    subst this
    rw[e1]at e3;exact Option.some.inj e3
end
theorem WQ{ws ws':List (Int × Int)}{P P':List (Nat × Nat)}{up up':Nat->Option Nat}{pos pos':Nat->Nat}{bs bs':List (List Nat)}(W:WOk 0 ws)(hn:ws'.length=ws.length)(F:Fo ws.length P up pos)(F':Fo ws'.length P' up' pos')(L:Line up pos (lf ws) (wf ws) (EN ws.length P) bs)(L':Line up' pos' (lf ws') (wf ws') (EN ws'.length P') bs')
    (pm:bs.flatten.Perm (List.range ws.length)) (pm':bs'.flatten.Perm (List.range ws.length)) (one:∀ a b c,up b=some a->up c=some a->b=c) (link:∀ v u,up v=some u->up' u=some v) (hx:∀ k,k < ws.length->wf ws k=lf ws' k/\lf ws k=wf ws' k) :
    Dc (lf ws) (wf ws) bs.flatten <= Dc (lf ws') (wf ws') bs'.flatten:=by
  have nd':bs'.flatten.reverse.Nodup:=bs'.flatten.reverse_perm.nodup_iff.mpr L'.nd
  have op:=XU (o:=bs'.flatten.reverse) L one ((bs'.flatten.reverse_perm.trans pm').trans pm.symm) λ v u e=>by
    have e':=link v u e
    have hu:u ∈ bs'.flatten:=pm'.mem_iff.mpr (by simpa using (F.lt _ ((F.hup u v).mp e)).1)
    exact(Nx L' (λ a ha=>Mr F' ha) hu e').rev.idx nd'
  have b:=Wv (WB W) bs.length bs bs'.flatten.reverse rfl op
  rw[LW]at b
  rw[Ig (l':=lf ws') (w':=wf ws') (o:=bs'.flatten) λ k hk=>hx k (by simpa using pm'.mem_iff.mp hk)]at b
  exact b
theorem Nb{f:Nat->Int}{M:Int}:∀ {ks:List Nat},(∀ k ∈ ks,0 <= f k/\f k <= M)->0 <= Sm.sm f ks/\Sm.sm f ks <= M * ks.length
  | [],_=>by simp[Sm.sm]
  | x :: r,h=>by
    have ih:=Nb (ks:=r) λ k hk=>h k (by simp[hk])
    have:=h x (by simp)
    rw[Sm.sm,List.length_cons]
    have e:M * ((r.length + 1:Nat):Int)=M * r.length + M:=by push_cast;rw[Int.mul_add,Int.mul_one]
    omega
theorem SU{g:Nat->Nat->Int}{M:Int}(hM:0 <= M):∀ {ks:List Nat},ks.length <= 8->(∀ x ∈ ks,∀ y ∈ ks,0 <= g x y/\g x y <= M)->0 <= Sm.ps g ks/\Sm.ps g ks <= M * 8 * ks.length
  | [],_,_=>by simp[Sm.ps]
  | x :: r,hl,h=>by
    simp only[List.length_cons]at hl
    have ih:=SU hM (ks:=r) (by omega) λ a ha b hb=>h a (by simp[ha]) b (by simp[hb])
    have s:=Nb (f:=g x) (M:=M) (ks:=r) λ k hk=>h x (by simp) k (by simp[hk])
    rw[Sm.ps,List.length_cons]
    have e:M * 8 * ((r.length + 1:Nat):Int)=M * 8 * r.length + M * 8:=by push_cast;rw[Int.mul_add,Int.mul_one]
    have e2:M * r.length <= M * 8:=Int.mul_le_mul_of_nonneg_left (by omega) hM
    omega
theorem M1{ws:List (Int × Int)}(W:WOk 0 ws):0 <= Sm.least (lf ws) (wf ws) 0 ws.length/\Sm.least (lf ws) (wf ws) 0 ws.length <= 1000000000000000:=by
  have n8:=W.n8
  have pr:∀ a b:Int,0 <= a->a <= 1000000->0 <= b->b <= 1000000->0 <= a * b/\a * b <= 1000000000000:=λ a b h1 h2 h3 h4=>by
    have:=Int.mul_nonneg h1 h3
    have:=Int.mul_le_mul h2 h4 h3 (by omega)
    omega
  have hb:∀ k ∈ List.range ws.length,1 <= lf ws k/\lf ws k <= 1000000/\0 <= wf ws k/\wf ws k <= 1000000:=λ k hk=>G0 W (by simpa using hk)
  have s:=Nb (f:=λ k=>wf ws k * (0 + lf ws k)) (M:=1000000000000) (ks:=List.range ws.length) λ k hk=>by
    have:=hb k hk
    rw[Int.zero_add]
    exact pr _ _ (by omega) (by omega) (by omega) (by omega)
  have p:=SU (g:=λ x y=>min (lf ws x * wf ws y) (lf ws y * wf ws x)) (M:=1000000000000) (by omega) (ks:=List.range ws.length) (by simpa using n8) λ x hx y hy=>by
    have h1:=hb x hx;have h2:=hb y hy
    have p1:=pr (lf ws x) (wf ws y) (by omega) (by omega) (by omega) (by omega)
    have p2:=pr (lf ws y) (wf ws x) (by omega) (by omega) (by omega) (by omega)
    omega
  unfold Sm.least
  simp only[List.length_range]at s p
  omega
theorem Rq{ps:List (Int × Int)}:Sm.least (lf (ps.map sw)) (wf (ps.map sw)) 0 (ps.map sw).length=Sm.least (lf ps) (wf ps) 0 ps.length:=by
  unfold Sm.least
  rw[List.length_map]
  have e1:Sm.sm (λ k=>wf (ps.map sw) k * (0 + lf (ps.map sw) k)) (List.range ps.length)=Sm.sm (λ k=>wf ps k * (0 + lf ps k)) (List.range ps.length):=Sm.sm_eq λ k hk=>by
    have:=Hy (ps:=ps) (k:=k) (by simpa using hk)
    rw[this.1,this.2,Int.zero_add,Int.zero_add,Int.mul_comm]
  have g:∀ x ∈ List.range ps.length,∀ y ∈ List.range ps.length,min (lf (ps.map sw) x * wf (ps.map sw) y) (lf (ps.map sw) y * wf (ps.map sw) x)=min (lf ps x * wf ps y) (lf ps y * wf ps x):=λ x hx y hy=>by
    have h1:=Hy (ps:=ps) (k:=x) (by simpa using hx)
    have h2:=Hy (ps:=ps) (k:=y) (by simpa using hy)
    rw[h1.1,h1.2,h2.1,h2.2,Int.mul_comm (wf ps x),Int.mul_comm (wf ps y)]
    omega
  have e2:=Int.le_antisymm (Sm.ps_le λ x hx y hy=>Int.le_of_eq (g x hx y hy)) (Sm.ps_le λ x hx y hy=>Int.le_of_eq (g x hx y hy).symm)
  rw[e1,e2]
theorem Uy{v:Int}(a:0 <= v)(b:v <= 1000000000000000):Qe v.natAbs.log2:=by
  have h0:v.natAbs < 2 ^ 60:=by omega
  unfold Qe
  by_cases z:v.natAbs=0
  . rw[z];decide
  . have:=(Nat.log2_lt z).mpr h0;omega
theorem Kq{hd:Hd}{QE:D->Hd->Prop}{v:Int}(h:0 <= v/\v <= 1000000000000000)(q:QE (.im (.str (toString v))) hd):WP (GA [.im (.int v)] hd) QE:=⟨_,_,by simp[GA,Uy h.1 h.2],q⟩
theorem Uu(hd:Hd)(B:List Nat):B2 hd (.im (CM B))=some (Ag B):=by simp only[B2,Ad];rw[Fw]
theorem Ip{mi:MI}{ls:Ls}{hd:Hd}{QA:List D->Hd->Prop}(h:WI mi ls hd λ p x=>∃ ps:List (Int × Int),p.1=ps.map Aj/\(ps.length < 64/\∀ q ∈ ps,pok q)/\QA ((Et ps).map Aj) x):WA (EF mi) ls hd QA:=by
  obtain⟨p,x,e,ps,e1,c,q⟩:=h
  refine⟨_,_,?_,q⟩
  simp only[O9,e,Option.bind_some,e1,Nt]
  rw[if_pos c]
theorem X9(Q:List (Nat × Nat)):((Q.map cs).filterMap λ p=>some (Aj (p.2,p.1)))=((Q.map sn).map cs).map Aj:=by
  induction Q with
  | nil=>rfl
  | cons x r ih=>simp only[List.map_cons,List.filterMap_cons];rw[ih]
theorem SZ(P:List (Nat × Nat)):Ai ((P.map cs).map Aj)=.im (fI P):=by
  have:(P.map cs).map Aj=(P.map prI).map D.im:=by rw[List.map_map,List.map_map];rfl
  rw[this,CZ]
theorem Oz{n:Nat}(n8:n <= 8){Q:List (Nat × Nat)}(h:∀ q ∈ Q,q.1 < n/\q.2 < n):∀ q ∈ Q.map cs,pok q:=λ q hq=>by
  obtain⟨q,hq',rfl⟩:=List.mem_map.mp hq
  have:=h q hq'
  exact⟨by show -1000000000 <= (q.1:Int);omega,by show(q.1:Int) <= 1000000000;omega,by show -1000000000 <= (q.2:Int);omega,by show(q.2:Int) <= 1000000000;omega⟩
noncomputable abbrev LS(ns:List Int)(z2:Option D)(n:Nat)(tp:Int)(z:List (Option D)):Ls:=some (.ro ns) :: some (.mu 1) :: z2 :: some (.im (.int (n:Int))) :: some (.im (.int tp)) :: some (.mu 2) :: z
inductive I_ps(ns:List Int)(z2:Option D)(n:Nat)(tp:Int)(r:List D)(ls:Ls)(hd:Hd):Prop
  | mk (k:Nat) (ps:List (Int × Int)) (a b:MO) (z6 z7 z8 z9 z10 z11 z12 z13 z14 z15 z16 z17:Option D) (er:r=Ao (k:Int) (n - k)) (hk:k <= n) (lp:ps.length=k) (hp:∀ p ∈ ps,1 <= p.1/\p.1 <= 1000000/\1 <= p.2/\p.2 <= 1000000) (el:ls=LS ns z2 n tp [z6,z7,z8,z9,z10,z11,z12,z13,z14,z15,z16,z17]) (eh:hd=[a,b,.lst (ps.map Aj)]) (hT:T 0 a b):I_ps ns z2 n tp r ls hd
inductive I_so(ns:List Int)(z2:Option D)(n:Nat)(tp:Int)(ps:List (Int × Int))(seq:List Nat)(r:List D)(ls:Ls)(hd:Hd):Prop
  | mk (k:Nat) (Q:List (Nat × Nat)) (a b:MO) (z6 z11 z12 z13 z14 z15 z16 z17:Option D) (er:r=Ao (k:Int) (n - k)) (hk:k <= n) (k1:1 <= k) (con:Con seq Q) (s2:(Q.map (·.2)).Sublist (seq.take k)) (s1:(Q.map (·.1)).Sublist (seq.take (k - 1))) (el:ls=LS ns z2 n tp [z6,some (.im (Av 0 ps)),some (.im (Av 0 (ps.map sw))),some (.im (CM seq)),some (.mu 3),z11,z12,z13,z14,z15,z16,z17]) (eh:hd=[a,b,.lst (ps.map Aj),.lst ((Q.map cs).map Aj)]) (hT:T 0 a b):I_so ns z2 n tp ps seq r ls hd
inductive I_wo(ns:List Int)(z2:Option D)(n:Nat)(tp:Int)(ps:List (Int × Int))(h2:Hd)(r:List D)(ls:Ls)(hd:Hd):Prop
  | mk (a b:MO) (z6 z9 z10 z11 z12 z13 z14 z15 z16 z17:Option D) (el:ls=LS ns z2 n tp [z6,some (.im (Av 0 ps)),some (.im (Av 0 (ps.map sw))),z9,z10,z11,z12,z13,z14,z15,z16,z17]) (eh:hd=a :: b :: h2) (hT:T 0 a b):I_wo ns z2 n tp ps h2 r ls hd
inductive I_law(ns:List Int)(r:List D)(ls:Ls)(hd:Hd):Prop
  | mk (a b:MO) (z2 z3 z4 z5 z6 z7 z8 z9 z10 z11 z12 z13 z14 z15 z16 z17:Option D) (el:ls=[some (.ro ns),some (.mu 1),z2,z3,z4,z5,z6,z7,z8,z9,z10,z11,z12,z13,z14,z15,z16,z17]) (eh:hd=[a,b]) (hT:T 0 a b):I_law ns r ls hd
set_option maxHeartbeats 1000000 in
theorem Xj(ns:List Int):WF F_law [.ro ns] [] λ d x=>d=.im (.bl true):=by
  unfold F_law
  refine BP rfl ?_
  obtain⟨τ,q⟩:=T3 ns
  refine AM (Aq (DR (A6 (A4 rfl (AB (WP.eq q (AH ?_)))))))
  refine AM (Cw (FG (A6 (As (AB ⟨_,rfl,Dd (by decide) (by decide),?_⟩)))))
  refine DP (I_law ns) (.mk _ _ none none none none none none none none none none none none none none none none rfl rfl ⟨τ,rfl⟩) ?_ ?_
  . intro d r ls hd hI
    obtain⟨a,b,z2,z3,z4,z5,z6,z7,z8,z9,z10,z11,z12,z13,z14,z15,z16,z17,rfl,rfl,hT⟩:=hI
    refine⟨[some (.ro ns),some (.mu 1),some d,z3,z4,z5,z6,z7,z8,z9,z10,z11,z12,z13,z14,z15,z16,z17],rfl,?_⟩
    generalize some d=z2
    refine Ko (AM (Fj (A6 (AL (As ?_)))))
    refine tap.draw (n:=0) hT rfl (by decide) (by decide) λ r1 a b hT pr1 qr1=>?_
    obtain⟨n,hn',hn1,hn8⟩:∃ n:Nat,1 + r1=(n:Int)/\1 <= n/\n <= 8:=⟨(1 + r1).toNat,by omega,by omega,by omega⟩
    refine Dz (A6 (Io (Cy (A6 (As (A6 (As (A6 (As (AB ⟨Ed,?_⟩))))))))))
    rw[hn']
    refine tap.draw (n:=0) hT rfl (by decide) (by decide) λ r2 a b hT pr2 qr2=>?_
    obtain⟨tp,htp,tp1,tp2⟩:∃ tp:Int,atI [D.im (.int 9),D.im (.int 3),D.im (.int 1000000)] r2=some (D.im (.int tp))/\1 <= tp/\tp <= 1000000:=by
      rcases(show r2=0 ∨ r2=1 ∨ r2=2 by omega)with rfl|rfl|rfl
      . exact⟨9,EJ _ _,by omega,by omega⟩
      . exact⟨3,En _ _ _,by omega,by omega⟩
      . exact⟨1000000,K5 _ _ _ _,by omega,by omega⟩
    refine⟨_,_,rfl,htp,AB ⟨rfl,AH ?_⟩⟩
    refine AM (Aq (BA (Cy (AB ⟨DX,AH ?_⟩))))
    refine AM (Cw (FG (A6 (A4 rfl (AB ⟨_,rfl,Dd (by omega) (by omega),?_⟩)))))
    rw[Int.toNat_natCast]
    refine DP (I_ps ns z2 n tp) (.mk 0 [] a b z6 z7 z8 z9 z10 z11 z12 z13 z14 z15 z16 z17 (by simp) (by omega) rfl (by simp) rfl rfl hT) ?_ ?_
    . intro d r ls hd hI
      obtain⟨j,ps,a,b,z6,z7,z8,z9,z10,z11,z12,z13,z14,z15,z16,z17,er,hj,lp,hp,rfl,rfl,hT⟩:=hI
      obtain⟨m,hm⟩:∃ m,n - j=m + 1:=by
        cases q:n - j with
        | zero=>rw[q]at er;cases er
        | succ m=>exact⟨m,rfl⟩
      rw[hm,Ao]at er
      obtain⟨rfl,rfl⟩:=List.cons.inj er
      have ej:((j:Int) + 1)=((j + 1:Nat):Int):=by omega
      have em:m=n - (j + 1):=by omega
      refine⟨LS ns z2 n tp [some (.im (.int (j:Int))),z7,z8,z9,z10,z11,z12,z13,z14,z15,z16,z17],rfl,?_⟩
      refine DI (GJ (A4 rfl ⟨⟨_,rfl⟩,A6 (Bu (A6 (AL (As ?_))))⟩))
      refine tap.draw (n:=0) (many:=tp) (rest:=[.lst (ps.map Aj)]) hT rfl (by omega) (by omega) λ u a b hT pu qu=>?_
      refine Dz (A6 (AL (As ?_)))
      refine tap.draw (n:=0) (many:=tp) (rest:=[.lst (ps.map Aj)]) hT rfl (by omega) (by omega) λ v a b hT pv qv=>?_
      refine Dz (AB ⟨DW,AB (FF rfl (Cs (by simp;omega)) ⟨Ab _,.mk (j + 1) (ps ++ [(1 + u,1 + v)]) a b _ _ _ _ _ _ _ _ _ _ _ _ (by rw[ej,em]) (by omega) (by simp[lp]) ?_ rfl ?_ hT⟩)⟩)
      . intro p hp'
        rcases List.mem_append.mp hp' with h|h
        . exact hp p h
        . rw[List.mem_singleton]at h;subst h;dsimp only;omega
      . simp[Ai,BZ,Aj]
    intro ls hd hI
    obtain⟨j,ps,a,b,z6,z7,z8,z9,z10,z11,z12,z13,z14,z15,z16,z17,er,hj,lp,hp,rfl,rfl,hT⟩:=hI
    have hj':j=n:=by
      cases q:n - j with
      | zero=>omega
      | succ m=>rw[q]at er;cases er
    have ln:ps.length=n:=by omega
    clear hn' lp er hj hj'
    subst ln
    have W:WOk 0 ps:=⟨by omega,by omega,hn1,hn8,λ p h=>by have:=hp p h;omega⟩
    have W':=Um W λ p h=>(hp p h).2.2.1
    refine AH (AM (Aq (CF (B8 (DQ (A4 rfl ⟨2,_,rfl,rfl,An (by simp;omega),?_⟩))))))
    refine C1 (xs:=ps) Aj (λ p=>some (wkD 0 p)) (λ _ ls=>∃ x y,ls=[some x,some y]) _ (by intro p hp;rw[List.mem_singleton]at hp;subst hp;rfl) ?_ ?_
    . rintro p hp ls hls
      refine⟨[some (.im (.int p.1)),some (.im (.int p.2))],by rcases hls with rfl|⟨_,x,y,rfl⟩ <;> rfl,⟨_,_,rfl⟩,B6 ⟨rfl,?_⟩⟩
      rw[if_pos rfl]
      exact⟨_,rfl,Bu (A6 (A4 rfl (A6 (As (A6 (Bu (A6 (As (A6 (A4 rfl (AB ⟨DW,AB ⟨Ed,rfl,rfl⟩⟩)))))))))))⟩
    have eF:(ps.filterMap λ p=>some (wkD 0 p))=ps.map (wkD 0):=by simp
    rw[eF]
    refine⟨_,rfl,AH ?_⟩
    rw[PD]
    refine AM (Aq (CF (B8 (DQ (A4 rfl ⟨2,_,rfl,rfl,An (by simp;omega),?_⟩)))))
    refine C1 (xs:=ps) Aj (λ p=>some (wkD 0 (sw p))) (λ _ ls=>∃ x y,ls=[some x,some y]) _ (by intro p hp;rw[List.mem_singleton]at hp;subst hp;rfl) ?_ ?_
    . rintro p hp ls hls
      refine⟨[some (.im (.int p.1)),some (.im (.int p.2))],by rcases hls with rfl|⟨_,x,y,rfl⟩ <;> rfl,⟨_,_,rfl⟩,B6 ⟨rfl,?_⟩⟩
      rw[if_pos rfl]
      exact⟨_,rfl,Bu (A6 (A4 rfl (A6 (As (A6 (Bu (A6 (As (A6 (A4 rfl (AB ⟨DW,AB ⟨Ed,rfl,rfl⟩⟩)))))))))))⟩
    have eF':(ps.filterMap λ p=>some (wkD 0 (sw p)))=(ps.map sw).map (wkD 0):=by simp
    rw[eF']
    refine⟨_,rfl,AH ?_⟩
    rw[PD]
    refine AM (Aq (Pz (A6 (A4 rfl (A6 (A4 rfl (AB ⟨a,b,[.lst (ps.map Aj)],_,_,rfl,rfl,hT,by simp,λ a b hT=>SJ hn8 a b hT,?_⟩)))))))
    rintro i a b hT ⟨seq,rfl,pm⟩
    have sl:seq.length=ps.length:=by simpa using pm.length_eq
    have snd:seq.Nodup:=pm.nodup_iff.mpr List.nodup_range
    refine AH (AM (Aq (BA (Cy (AB ⟨DX,AH ?_⟩)))))
    refine AM (Cw (Ka (A6 (As (A6 (A4 rfl (AB ⟨_,_,rfl,TQ (by omega) (by omega) (by omega) (by omega),?_⟩)))))))
    have e0:((ps.length:Int) - 1).toNat=ps.length - 1:=by omega
    rw[e0]
    refine DP (I_so ns z2 ps.length tp ps seq) (.mk 1 [] a b z6 z11 z12 z13 z14 z15 z16 z17 rfl hn1 (by omega) (by intro q hq;cases hq) (by simp) (by simp) rfl rfl hT) ?_ ?_
    . intro d r ls hd hI
      obtain⟨j,Q,a,b,z6,z11,z12,z13,z14,z15,z16,z17,er,hj,j1,con,s2,s1,rfl,rfl,hT⟩:=hI
      obtain⟨m,hm⟩:∃ m,ps.length - j=m + 1:=by
        cases q:ps.length - j with
        | zero=>rw[q]at er;cases er
        | succ m=>exact⟨m,rfl⟩
      rw[hm,Ao]at er
      obtain⟨rfl,rfl⟩:=List.cons.inj er
      have ej:((j:Int) + 1)=((j + 1:Nat):Int):=by omega
      have em:m=ps.length - (j + 1):=by omega
      have hjs:j < seq.length:=by omega
      have hjp:j - 1 < seq.length:=by omega
      have ql:Q.length <= 8:=by have:=s2.length_le;simp at this;omega
      have tk:seq.take (j + 1)=seq.take j ++ [seq[j]]:=by rw[List.take_succ,List.getElem?_eq_getElem hjs];rfl
      have tk':seq.take j=seq.take (j - 1) ++ [seq[j - 1]]:=by
        conv=>lhs;rw[show j=j - 1 + 1 by omega]
        rw[List.take_succ,List.getElem?_eq_getElem hjp];rfl
      refine⟨LS ns z2 ps.length tp [z6,some (.im (Av 0 ps)),some (.im (Av 0 (ps.map sw))),some (.im (CM seq)),some (.mu 3),some (.im (.int (j:Int))),z12,z13,z14,z15,z16,z17],rfl,?_⟩
      refine Cv (CC (AL ?_))
      refine tap.draw (n:=0) (rest:=[.lst (ps.map Aj),.lst ((Q.map cs).map Aj)]) hT rfl (by decide) (by decide) λ r1 a b hT pr1 qr1=>?_
      refine As (KZ ⟨_,rfl,λ hb=>?_,λ hb=>CO ⟨Ab _,.mk (j + 1) Q a b _ _ _ _ _ _ _ _ (by rw[ej,em]) (by omega) (by omega) con (by rw[tk];exact s2.trans (List.sublist_append_left _ _)) (by rw[Nat.add_sub_cancel,tk'];exact s1.trans (List.sublist_append_left _ _)) rfl rfl hT⟩⟩)
      refine DI (GJ (A4 rfl ⟨⟨_,rfl⟩,A6 (Bu (A6 (AL (A4 rfl (AL (A4 rfl (As (Gv ?_))))))))⟩))
      refine Ah (ds:=Ag seq) (e:=.im (.int ((seq[j - 1]:Nat):Int))) (Uu _ _) (EI (k:=j - 1) (by omega) (by simp[hjp])) ?_
      refine A6 (AL (A4 rfl (A4 rfl (Ah (ds:=Ag seq) (Uu _ _) (W5 (List.getElem?_eq_getElem hjs)) (AB ⟨DW,AB ?_⟩)))))
      refine FF rfl (Cs (by simp;omega)) ⟨Ab _,.mk (j + 1) (Q ++ [(seq[j - 1],seq[j])]) a b _ _ _ _ _ _ _ _ (by rw[ej,em]) (by omega) (by omega) ?_ ?_ ?_ rfl ?_ hT⟩
      . intro q hq
        rcases List.mem_append.mp hq with h|h
        . exact con q h
        . rw[List.mem_singleton]at h;subst h
          exact⟨j - 1,by simp[hjp],by rw[show j - 1 + 1=j by omega];simp⟩
      . rw[tk,List.map_append];exact s2.append (List.Sublist.refl _)
      . rw[Nat.add_sub_cancel,tk',List.map_append];exact s1.append (List.Sublist.refl _)
      . simp[Ai,BZ,Aj]
    intro ls hd hI
    obtain⟨j,Q,a,b,z6,z11,z12,z13,z14,z15,z16,z17,er,hj,j1,con,s2,s1,rfl,rfl,hT⟩:=hI
    have hQ:∀ q ∈ Q,q.1 < ps.length/\q.2 < ps.length:=λ q hq=>by
      obtain⟨i,e1,e2⟩:=con q hq
      exact⟨by simpa using pm.mem_iff.mp (List.mem_of_getElem? e1),by simpa using pm.mem_iff.mp (List.mem_of_getElem? e2)⟩
    have hQ':∀ q ∈ Q.map sn,q.1 < ps.length/\q.2 < ps.length:=λ q hq=>by
      obtain⟨q,hq',rfl⟩:=List.mem_map.mp hq
      exact⟨(hQ q hq').2,(hQ q hq').1⟩
    have ql:Q.length <= 8:=by have:=s2.length_le;simp at this;omega
    obtain⟨P,pP,eP⟩:=Ob Q
    obtain⟨P',pP',eP'⟩:=Ob (Q.map sn)
    have nd2:(Q.map (·.2)).Nodup:=snd.sublist (s2.trans (List.take_sublist _ _))
    have nd1:((Q.map sn).map (·.2)).Nodup:=by
      have e:(Q.map sn).map (·.2)=Q.map (·.1):=by rw[List.map_map];rfl
      rw[e];exact snd.sublist (s1.trans (List.take_sublist _ _))
    have ndP:=(pP.map (·.2)).nodup_iff.mpr nd2
    have ndP':=(pP'.map (·.2)).nodup_iff.mpr nd1
    have F:=Sf hn8 pm ndP λ q hq=>Wp con q (pP.mem_iff.mp hq)
    have F':=Sf (n:=(ps.map sw).length) (seq:=seq.reverse) (P:=P') (by simpa using hn8) (by rw[List.length_map];exact seq.reverse_perm.trans pm) ndP' λ q hq=>Wo con q (pP'.mem_iff.mp hq)
    have one:=Ue snd con
    have mP:∀ v u,upF P v=some u ↔ (u,v) ∈ Q:=λ v u=>(Hm ndP u v).trans pP.mem_iff
    have mP':∀ v u,upF P' v=some u ↔ (v,u) ∈ Q:=λ v u=>(Hm ndP' u v).trans (pP'.mem_iff.trans (by
      rw[List.mem_map]
      constructor
      . rintro⟨⟨x,y⟩,h,e⟩;simp[sn]at e;rw[<- e.1,<- e.2];exact h
      . intro h;exact⟨_,h,rfl⟩))
    refine AH (AM (Aq (CF (Ip (DQ (A4 rfl ⟨3,_,rfl,rfl,Q.map cs,rfl,⟨by simp;omega,Oz hn8 hQ⟩,?_⟩))))))
    rw[eP]
    refine⟨_,rfl,AH ?_⟩
    rw[SZ]
    refine AM (Aq (CF (Ip (NP (B8 (DQ (A4 rfl ⟨3,_,rfl,rfl,An (by simp;omega),?_⟩)))))))
    refine C1 (xs:=Q.map cs) Aj (λ p=>some (Aj (p.2,p.1))) (λ _ ls=>∃ x y,ls=[some x,some y]) _ (by intro p hp;rw[List.mem_singleton]at hp;subst hp;rfl) ?_ ?_
    . rintro p hp ls hls
      refine⟨[some (.im (.int p.1)),some (.im (.int p.2))],by rcases hls with rfl|⟨_,x,y,rfl⟩ <;> rfl,⟨_,_,rfl⟩,B6 ⟨rfl,?_⟩⟩
      rw[if_pos rfl]
      exact⟨_,rfl,Bu (A6 (A4 rfl (A6 (A4 rfl (AB ⟨DW,rfl,rfl⟩)))))⟩
    rw[X9]
    refine⟨_,rfl,⟨by simp;omega,Oz hn8 hQ'⟩,?_⟩
    rw[eP']
    refine⟨_,rfl,AH ?_⟩
    rw[SZ]
    refine AM (Cv (CC (AL (Cj (A6 (AV (A6 (A4 rfl (AB ⟨by simp,(GS W).mono ?_⟩)))))))))
    rintro d x rfl
    refine⟨_,rfl,AB (Kq (M1 W) (Cj (A6 (AV (A6 (A4 rfl (AB ⟨by simp,(GS W').mono ?_⟩)))))))⟩
    rintro d x rfl
    refine⟨_,rfl,AB (Kq (M1 W') (Gw ⟨_,rfl,?_⟩))⟩
    rw[Rq]
    refine⟨(λ h=>by simp at h),λ _=>CO (AH ?_)⟩
    refine AM (Fj (A6 (AL (AV (A6 (A4 rfl (A6 (A4 rfl (AB ⟨by simp,(N5 W F).mono ?_⟩)))))))))
    rintro d x ⟨bs,es,rfl,L⟩
    refine⟨_,rfl,As (Ah rfl (EJ _ _) (A6 (AL (AV (A6 (A4 rfl (A6 (A4 rfl (AB ⟨by simp,(N5 W' F').mono ?_⟩)))))))))⟩
    rintro d x ⟨bs',es',rfl,L'⟩
    refine⟨_,rfl,As (Ah rfl (EJ _ _) (AB ⟨rfl,AH ?_⟩))⟩
    have lb:=HZ F (GN F).lt L
    have lb':=HZ F' (GN F').lt L'
    have pmo:bs.flatten.Perm (List.range ps.length):=N6 L.nd λ v=>⟨lb.lt v,λ hv=>(L.mem v).mpr (Og F _ v (Nat.le_refl _) hv)⟩
    have pmo':bs'.flatten.Perm (List.range ps.length):=N6 L'.nd λ v=>⟨λ h=>by simpa using lb'.lt v h,λ hv=>(L'.mem v).mpr (Og F' _ v (Nat.le_refl _) (by simpa using hv))⟩
    have heq:Sm.cst (lf (ps.map sw)) (wf (ps.map sw)) bs'.flatten 0 0=Sm.cst (lf ps) (wf ps) bs.flatten 0 0:=by
      rw[Ja,Ja]
      refine Int.le_antisymm ?_ ?_
      . refine WQ W' (by simp) F' F L' L (by rw[List.length_map];exact pmo') (by rw[List.length_map];exact pmo) ?_ ?_ ?_
        . intro a b c h1 h2;exact one.2 b c a ((mP' b a).mp h1) ((mP' c a).mp h2)
        . intro v u h;exact(mP u v).mpr ((mP' v u).mp h)
        . intro k hk;have:=Hy (ps:=ps) (k:=k) (by simpa using hk);exact⟨this.2,this.1⟩
      . refine WQ W (by simp) F F' L L' pmo pmo' ?_ ?_ ?_
        . intro a b c h1 h2;exact one.1 a b c ((mP b a).mp h1) ((mP c a).mp h2)
        . intro v u h;exact(mP' u v).mpr ((mP v u).mp h)
        . intro k hk;have:=Hy (ps:=ps) (k:=k) hk;exact⟨this.1.symm,this.2.symm⟩
    refine AM (Aq (AV (A6 (A4 rfl (A6 (A4 rfl (AB ⟨by simp,(Pn W λ k hk=>lb.lt k hk).mono ?_⟩)))))))
    rintro d x rfl
    refine⟨_,rfl,AH ?_⟩
    refine AM (Cv (KY (CC (AL (AV (A6 (A4 rfl (A6 (A4 rfl (AB ⟨by simp,(Pn W' λ k hk=>lb'.lt k hk).mono ?_⟩))))))))))
    rintro d x rfl
    refine⟨_,rfl,A4 rfl (Gx ⟨_,rfl,?_⟩)⟩
    rw[heq,if_neg (by simp)]
    refine CC (AL (A4 rfl (AV (A6 (A4 rfl (AB ⟨by simp,(GS W).mono ?_⟩))))))
    rintro d x rfl
    have hle:=Sm.least_le (lf ps) (wf ps) 0 pmo
    refine⟨_,rfl,GI ⟨_,rfl,(λ h=>by have:=of_decide_eq_true h;omega),λ _=>CO (AH ?_)⟩⟩
    have ca:∀ a b,T 0 a b->clO 2 a=true/\clO 2 b=true:=λ a b h=>tap.cl h
    refine Cv (CC (AL (A4 rfl (As (GI ⟨_,rfl,λ _=>?_,λ _=>CO ?_⟩)))))
    . refine Cw (FG (A6 (As (AB ⟨_,rfl,Dd (by decide) (by decide),?_⟩))))
      refine DP (I_wo ns z2 ps.length tp ps [.lst (ps.map Aj),.lst ((Q.map cs).map Aj)]) (.mk a b _ _ _ _ _ _ _ _ _ _ rfl rfl hT) ?_ ?_
      . intro d r ls hd hI
        obtain⟨a,b,z6,z9,z10,z11,z12,z13,z14,z15,z16,z17,rfl,rfl,hT⟩:=hI
        refine⟨LS ns z2 ps.length tp [z6,some (.im (Av 0 ps)),some (.im (Av 0 (ps.map sw))),z9,z10,z11,z12,z13,z14,z15,z16,some d],rfl,?_⟩
        refine AM (Aq (Pz (A6 (A4 rfl (A6 (A4 rfl (AB ⟨a,b,_,_,_,rfl,rfl,hT,by simp,λ a b hT=>SJ hn8 a b hT,?_⟩)))))))
        rintro i a b hT ⟨o,rfl,po⟩
        refine AH (Cv (CC (AL (AV (A6 (A4 rfl (A6 (A4 rfl (AB ⟨by simp,(Lz W po).mono ?_⟩)))))))))
        rintro d x rfl
        refine⟨_,rfl,AV (A6 (A4 rfl (A6 (Sx (A4 rfl (OS (As ⟨_,rfl,rfl,_,rfl,?_⟩)))))))⟩
        have er:Ai ((o.map λ k:Nat=>I.int (k:Int)).map D.im).reverse=.im (CM o.reverse):=by
          rw[<- List.map_reverse,<- List.map_reverse,CZ]
        rw[er]
        refine AB ⟨by simp,(Lz (row:=o.reverse) W' (by rw[List.length_map];exact o.reverse_perm.trans po)).mono ?_⟩
        rintro d x rfl
        have e5:Sm.cst (lf (ps.map sw)) (wf (ps.map sw)) o.reverse 0 0=Sm.cst (lf ps) (wf ps) o 0 0:=by
          rw[Ja,Ja,<- LW (l:=lf ps) (w:=wf ps)]
          exact Ig λ k hk=>Hy (by simpa using po.mem_iff.mp (List.mem_reverse.mp hk))
        refine⟨_,rfl,Gx ⟨_,rfl,?_⟩⟩
        rw[e5]
        exact⟨(λ h=>by simp at h),λ _=>CO ⟨Ab _,.mk a b _ _ _ _ _ _ _ _ _ _ rfl rfl hT⟩⟩
      . intro ls hd hI
        obtain⟨a,b,z6,z9,z10,z11,z12,z13,z14,z15,z16,z17,rfl,rfl,hT⟩:=hI
        have:=ca a b hT
        exact⟨by simp[this.1,this.2],_,rfl,Ab _,.mk a b _ _ _ _ _ _ _ _ _ _ _ _ _ _ _ _ rfl rfl hT⟩
    . have:=ca a b hT
      exact⟨by simp[this.1,this.2],_,rfl,Ab _,.mk a b _ _ _ _ _ _ _ _ _ _ _ _ _ _ _ _ rfl rfl hT⟩
  . intro ls hd hI
    obtain⟨a,b,z2,z3,z4,z5,z6,z7,z8,z9,z10,z11,z12,z13,z14,z15,z16,z17,rfl,rfl,hT⟩:=hI
    exact AH (B9 (As rfl))
theorem law_eq(ns:List Int):∃ hd,F_law [.ro ns] []=some (.im (.bl true),hd):=by
  obtain⟨d,x,e,rfl⟩:=Xj ns
  exact⟨x,e⟩
end T69
namespace L2
open PySem PySem.Spec PyProof.Rows PySem.W
noncomputable abbrev Tb:=Addr × Str × Nat × Nat
noncomputable def UJ(ts:List Tb):Obj:={ cls:=.str "tables" 0,data:=.fields (ts.flatMap λ t=>[.ref t.1,.str t.2.1 0,.int t.2.2.1 0,.int t.2.2.2 0]).toArray }
noncomputable def Aa(K:PySem.W.Frag)(ts:List Tb):PySem.W.Frag:=(K.filter λ p=>!(ts.map (·.1)).contains p.1) ++ [(mainGlobals,UJ ts)]
theorem OY:∀ ts:List Tb,Kc (ts.flatMap λ t=>[Value.ref t.1,.str t.2.1 0,.int t.2.2.1 0,.int t.2.2.2 0])=ts.map λ t=>(t.1,t.2.1,⟨t.2.2.1,t.2.2.2,0,0⟩)
  | []=>rfl
  | t :: r=>by
    rw[List.flatMap_cons,List.map_cons,<- OY r]
    rfl
theorem K9(K:PySem.W.Frag)(ts:List Tb):Gz (Aa K ts)=ts.map λ t=>(t.1,t.2.1,⟨t.2.2.1,t.2.2.2,0,0⟩):=by
  unfold Gz Aa
  rw[List.getLast?_concat]
  show Kc _=_
  rw[<- OY ts]
theorem Fg{L:List Addr}{a:Addr}(ha:a ∉ L):∀ K:PySem.W.Frag,(K.filter λ p=>!L.contains p.1).lookup a=K.lookup a
  | []=>rfl
  | (b,o) :: r=>by
    have ih:=Fg ha r
    rw[List.filter_cons]
    by_cases hb:b ∈ L
    . have h1:(!L.contains (b,o).1)=false:=by simp[hb]
      have h2:(a == b)=false:=beq_eq_false_iff_ne.mpr λ z=>ha (z ▸ hb)
      rw[if_neg (by rw[h1];decide),List.lookup_cons,h2,ih]
    . have h1:(!L.contains (b,o).1)=true:=by simp[hb]
      rw[if_pos h1,List.lookup_cons,List.lookup_cons,ih]
theorem HY{L:List Addr}{P:Addr}(hP:P ∈ L):∀ K:PySem.W.Frag,(K.filter λ p=>!L.contains p.1).lookup P=none
  | []=>rfl
  | (b,o) :: r=>by
    have ih:=HY hP r
    rw[List.filter_cons]
    by_cases hb:b ∈ L
    . rw[if_neg (by simp[hb])];exact ih
    . have h2:(P == b)=false:=beq_eq_false_iff_ne.mpr λ z=>hb (z ▸ hP)
      rw[if_pos (by simp[hb]),List.lookup_cons,h2];exact ih
section
variable{K:PySem.W.Frag}{ts:List Tb}
theorem HL{a:Addr}{o:Obj}(ha:a ∉ ts.map (·.1))(e:K.lookup a=some o):(Aa K ts).lookup a=some o:=by
  unfold Aa
  rw[List.lookup_append,Fg ha,e];rfl
theorem UI{h:Heap}(X:K.In h){g:Obj}(hg:K.lookup mainGlobals=some g)(hP:mainGlobals ∉ ts.map (·.1)):(Aa K ts).In h:=λ a o e=>by
  unfold Aa at e
  rw[List.lookup_append]at e
  by_cases ha:a ∈ ts.map (·.1)
  . rw[HY ha,Option.none_or]at e
    have h2:(a == mainGlobals)=false:=beq_eq_false_iff_ne.mpr λ z=>hP (z ▸ ha)
    rw[List.lookup_cons,h2]at e;cases e
  . rw[Fg ha]at e
    cases k:K.lookup a with
    | some o'=>rw[k]at e;cases e;exact X _ _ k
    | none=>
      rw[k,Option.none_or,List.lookup_cons]at e
      by_cases hm:a=mainGlobals
      . subst hm;rw[hg]at k;cases k
      . rw[beq_eq_false_iff_ne.mpr hm]at e;cases e
theorem UH(hM:mainGlobals ∉ ts.map (·.1)){P:Addr}(hP:P ∈ ts.map (·.1)):(Aa K ts).lookup P=none:=by
  unfold Aa
  have h2:(P == mainGlobals)=false:=beq_eq_false_iff_ne.mpr λ z=>hM (z ▸ hP)
  rw[List.lookup_append,HY hP,Option.none_or,List.lookup_cons,h2]
  rfl
theorem Fun.mark{x:Str}{st:Stmt}{f:Addr}{fd:FuncData}(D:Fun K x x st f fd){h:Heap}(X:K.In h)(hP:∀ P ∈ ts.map (·.1),h.get? P=some (tabObj #[])):Fun (Aa K ts) x x st f fd:=by
  have neP:∀ a o,K.lookup a=some o->o ≠ tabObj #[]->a ∉ ts.map (·.1):=λ a o e n z=>by
    have:=X _ _ e
    rw[hP a z]at this;exact n (Option.some.inj this).symm
  obtain⟨⟨oc,od,kV,doc,pm,an,cdv,ct,osl,rfl,lk,hcd⟩,kp⟩:=D
  have hf:f ∉ ts.map (·.1):=neP f _ lk (λ z=>by cases z)
  refine⟨⟨oc,od,kV,doc,pm,an,cdv,ct,osl,rfl,HL hf lk,?_⟩,?_⟩
  . unfold codeIn at hcd ⊢
    split at hcd
    . next c0=>
      split at hcd
      . next vs sl k=>
        have hc:c0 ∉ ts.map (·.1):=neP c0 _ k (λ z=>by
          have:vs=#[]:=by injection z with _ _ z _;injection z
          rw[this]at hcd;cases hcd)
        simp only[HL hc k]
        exact hcd
      . cases hcd
    . cases hcd
  . unfold keepIn
    simp only[HL hf lk]
end
theorem XE{K:PySem.W.Frag}{H:Hp}{a:Addr}{xs:List V}(hS:SqL K H a xs)(hO:∀ ys,H a ≠ some (.lst ys)):RoL K H a xs:=by
  rcases hS with(h|h)|h
  . exact absurd h (hO xs)
  . exact .inl h
  . exact .inr h
theorem PV{Pg:Program}{w:World}{K:PySem.W.Frag}{mg mb:Str->Option Value}{k:Nat}{fa a:Addr}{fd:FuncData}{x:Str}{ts:List Tb}{s₁:Shared}{vs:List Value}{ns:List Int}{F:List D->Hd->Option (D × Hd)}
    (KX:K.In s₁.heap) (hns:s₁.heap.Ns mainGlobals mg) (hb:s₁.heap.Ns builtinsNs mb) (hbb:∀ x:Str,x ≠ "__name__"->mb x=bootBuiltins x) (hlim:s₁.heap.NoLimit) (hg:s₁.gens=#[])
    (ha:s₁.heap.get? a=some { cls:=.type "list",data:=.seq vs.toArray }) (hi:IntsAre vs ns) (hl:ns.length <= sizeLine) (hr:Room k callerA)
    (hT:∀ P ∈ ts.map (·.1),∃ cc,s₁.heap.TableAt cc P #[]) (hPK:∀ P ∈ ts.map (·.1),K.lookup P=none) (htab:Gz K=ts.map λ t=>(t.1,t.2.1,⟨t.2.2.1,t.2.2.2,0,0⟩))
    (Fn:∀ base:Heap,K.In base->base.Ns mainGlobals mg->(∀ b o,b ∉ ts.map (·.1)->b ≠ a->s₁.heap.get? b=some o->base.get? b=some o)->FnOk Pg w K mg base CX0 k fa fd [x] (spF K 1 F)) (hbind:∀ (s:Shared) (u:Value),BindsTo s fd ⟨[u],[]⟩ [(x,u)])
    (hF:∃ hd',F [.ro ns] []=some (.im (.bl true),hd')) :
    codeAny (model Pg w) callerA (.call (.ref fa) ⟨[.ref a],[]⟩) (λ r s'=>r=.ok (.ret (.bool true))/\OldK s₁.heap s'.heap/\s'.os=s₁.os/\AllBare s'.gens) s₁:=by
  have rv:=K8 hi
  have lenV:=hi.length
  have hP:∀ P ∈ ts.map (·.1),s₁.heap.get? P=some (tabObj #[]):=λ P h=>let ⟨cc,t⟩:=hT P h;t.2
  have haP:a ∉ ts.map (·.1):=λ z=>by rw[hP a z]at ha;cases ha
  have core:∀ H:Hp,(∀ b,b ∉ ts.map (·.1)->H b=none ∨ ∃ o xs,H b=some (.frz o (.lst xs)))->(∀ P ∈ ts.map (·.1),H P=some (.tbl #[]))->SqL K H a (ns.map V.int)->HOk Pg w H s₁.heap->(∀ b,H b ≠ none->b=a ∨ b ∈ ts.map (·.1))->(H a ≠ none->K.lookup a=none) ->
      codeAny (model Pg w) callerA (.call (.ref fa) ⟨[.ref a],[]⟩) (λ r s'=>r=.ok (.ret (.bool true))/\OldK s₁.heap s'.heap/\s'.os=s₁.os/\AllBare s'.gens) s₁:=by
    intro H hO hHP hS hok hA hK
    have base_of:∀ {b:Addr} {o:Obj},s₁.heap.get? b=some o->H b=none->(Ga s₁.heap H).get? b=some o:=λ e n=>Rz e n
    have noA:∀ {b:Addr} {o:Obj} {es:Array DictEntry} {ep:Nat},s₁.heap.get? b=some o->o.data=.dict es ep->H b=none:=λ {b o es ep} e d=>by
      cases q:H b with
      | none=>rfl
      | some u=>
        rcases hA b (by rw[q];simp)with e'|e'
        . subst e'
          rw[ha]at e;cases e
          have d':Data.seq vs.toArray _=Data.dict es ep:=d
          cases d'
        . rw[hP b e']at e;cases e
          cases d
    have nsK:∀ {b:Addr} {m:Str->Option Value},s₁.heap.Ns b m->(Ga s₁.heap H).Ns b m:=λ {b m} ⟨o,es,ep,e,d,r⟩=>⟨o,es,ep,base_of e (noA e d),d,r⟩
    have hKb:K.In (Ga s₁.heap H):=λ b o e=>base_of (KX b o e) (by
      cases q:H b with
      | none=>rfl
      | some u=>
        rcases hA b (by rw[q];simp)with e'|e'
        . subst e'
          rw[hK (by rw[q];simp)]at e;cases e
        . rw[hPK b e']at e;cases e)
    have hM:Mod K mg (Ga s₁.heap H):=⟨hKb,nsK hns,⟨mb,nsK hb,hbb⟩,let ⟨mc,h1,h2⟩:=hlim;⟨mc,nsK h1,h2⟩⟩
    have e0:Env0 Pg w K mg (Ga s₁.heap H) callerA [] s₁ H:=⟨rfl,hM,λ b o e=>UD e,Nat.le_of_eq (PY _ _),trivial,λ b hb=>absurd (show b ∈ ([]:List Addr)from hb) (by simp),hok,.of_eq hg⟩
    have hsp:spF K 1 F [.ref a] H (λ v _=>v=.bl true) λ _ _ _=>False:=by
      obtain⟨hd',e⟩:=hF
      refine⟨rfl,[],[],[.ro ns],.im (.bl true),hd',⟨rfl,List.nodup_nil,λ y hy=>?_,λ n o a h=>by simp at h⟩,?_,e,λ ρ' H' v _ _ r=>?_⟩
      . rw[htab]at hy
        obtain⟨t,ht,rfl⟩:=List.mem_map.mp hy
        exact⟨#[],hHP t.1 (List.mem_map.mpr ⟨t,ht,rfl⟩),.inl rfl⟩
      . simp only[RDs,RD]
        refine⟨_,_,rfl,⟨a,rfl,XE hS λ ys z=>?_⟩,rfl⟩
        rcases hO a haP with q|⟨o,ys,q⟩ <;> (rw[q]at z;cases z)
      . simpa only[RD,RI]using r
    refine codeAny_mono ((Fn _ hKb (nsK hns) λ b o n1 n2 e=>base_of e (by
      cases q:H b with
      | none=>rfl
      | some u=>
                  rcases hA b (by rw[q];simp)with e'|e'
                  . exact absurd e' n2
                  . exact absurd e' n1)).run callerA [] s₁ H ⟨[.ref a],[]⟩ [.ref a] [.ref a] _ _ hr e0 (hbind s₁ (.ref a)) (.cons rfl .nil) hsp) λ r s' h=>?_
    cases r with
    | error e=>exact h.elim
    | ok fl=>
      cases fl with
      | next=>exact False.elim h
      | brk=>exact False.elim h
      | cont=>exact False.elim h
      | ret u=>
        obtain⟨v,H',os,bare,un,hok',r',q⟩:=h
        have q':v=.bl true:=q
        subst q'
        obtain rfl:u=Value.bool true:=r'
        have keep:∀ b o,b ∉ ts.map (·.1)->s₁.heap.get? b=some o->s'.heap.get? b=some o:=λ b o nb e=>by
          cases q:H b with
          | none=>exact un.keep b o e q (by intro z;exact absurd (show b ∈ ([]:List Addr)from z) (by simp)) (by simp)
          | some u=>
            rcases hO b nb with z|⟨ob,xs,z⟩
            . rw[q]at z;cases z
            . have z2:=un.frzs b ob _ z
              obtain⟨e1,_⟩:=hok b _ z
              obtain⟨e2,_⟩:=hok' b _ z2
              rw[e]at e1;cases e1
              exact e2
        refine⟨rfl,⟨λ b o e=>?_,λ b o e=>?_⟩,os,bare⟩
        . by_cases nb:b ∈ ts.map (·.1)
          . obtain⟨cc,tb⟩:=hT b nb
            obtain⟨more,hm⟩:=un.tbls b #[] (hHP b nb)
            have hb':s'.heap.get? b=some (tabObj (#[] ++ more)):=hok' b _ hm
            rw[hP b nb]at e;cases e
            exact .inr (.inl ⟨tb.isCodeTable,rfl,#[],more,rfl,hb'⟩)
          . exact .inl (keep b o nb e)
        . by_cases nb:b ∈ ts.map (·.1)
          . obtain⟨more,hm⟩:=un.tbls b #[] (hHP b nb)
            exact⟨_,hok' b _ hm⟩
          . exact⟨o,keep b o nb e⟩
  cases hk:K.lookup a with
  | some o=>
    have e:=KX a o hk
    rw[ha]at e
    cases e
    refine core (λ b=>if b ∈ ts.map (·.1)then some (.tbl #[])else none) (λ b nb=>.inl (if_neg nb)) (λ P hp=>if_pos hp) (.inr ⟨_,vs.toArray,_,hk,rfl,rfl,rfl,by rw[List.size_toArray,lenV];exact hl,by simpa using rv⟩) (λ b u z=>?_) (λ b z=>?_) λ z=>absurd (if_neg haP) z
    . by_cases hb:b ∈ ts.map (·.1)
      . have z':=(if_pos hb).symm.trans z
        cases z'
        exact hP b hb
      . have z':=(if_neg hb).symm.trans z
        cases z'
    . by_cases hb:b ∈ ts.map (·.1)
      . exact .inr hb
      . exact absurd (if_neg hb) z
  | none=>
    refine core (λ b=>if b ∈ ts.map (·.1)then some (.tbl #[])else if b=a then some (.frz { cls:=.type "list",data:=.seq vs.toArray } (.lst (ns.map V.int)))else none) (λ b nb=>?_) (λ P hp=>if_pos hp) (.inl (.inr ⟨{ cls:=.type "list",data:=.seq vs.toArray },(if_neg haP).trans (if_pos rfl)⟩)) (λ b u z=>?_) (λ b z=>?_) λ _=>hk
    . rw[if_neg nb]
      by_cases hb:b=a
      . exact .inr ⟨_,_,if_pos hb⟩
      . exact .inl (if_neg hb)
    . by_cases hp:b ∈ ts.map (·.1)
      . have z':=(if_pos hp).symm.trans z
        cases z'
        exact hP b hp
      . have z:=(if_neg hp).symm.trans z
        by_cases hb:b=a
        . have z':=(if_pos hb).symm.trans z
          cases z'
          subst hb
          exact⟨ha,by rw[List.length_map];exact hl,vs,_,rv,ha⟩
        . have z':=(if_neg hb).symm.trans z
          cases z'
    . by_cases hp:b ∈ ts.map (·.1)
      . exact .inr hp
      . by_cases hb:b=a
        . exact .inl hb
        . exact absurd ((if_neg hp).trans (if_neg hb)) z
theorem walkL{l:PySem.W.OpenLaw}{n k:Nat}{q:Program}{loose:List Str}{XP:(Str->Option Value)->Heap->Prop}{YP:World->Heap->Prop}{d:DefRec}{K:Params->PySem.W.Frag}{F:List D->Hd->Option (D × Hd)}(xs:List (Str × Str × Nat × Nat))
    (hn:l.most=some n) (hn2:n <= sizeLine) (hdf:d.params.defaults=[]) (hr:Room k callerA) (hdr:∀ x ∈ xs,∃ dr,(recsOf q).find? (λ e=>e.name == x.1)=some dr)
    (hF:∀ ns:List Int,∃ hd',F [.ro ns] []=some (.im (.bl true),hd'))
    (hY:∀ (w:World) (h:Heap),YP w h->(K w.params).In h)
    (G:∀ (w:World) (mg:Str->Option Value) (fa:Addr) (h:Heap) (c P:Str->Addr),(K w.params).In h->h.Ns mainGlobals mg->mg d.name=some (.ref fa) ->
      (∀ x ∈ xs,h.get? (P x.1)=some (tabObj #[])/\CodeHd h (c x.1) (P x.1)/\∃ a o fd,mg x.1=some (.ref a)/\h.get? a=some o/\o.data=.func fd/\fd.code=.ref (c x.1)) ->
      (∃ g,(K w.params).lookup mainGlobals=some g)/\∃ fd:FuncData,(∀ (s:Shared) (u:Value),BindsTo s fd ⟨[u],[]⟩ [("_law_script",u)]) /\
        ∀ base:Heap,(Aa (K w.params) (xs.map λ x=>(P x.1,x.2))).In base->base.Ns mainGlobals mg->(∀ x ∈ xs,CodeHd base (c x.1) (P x.1))->(∀ x ∈ xs,base.BuiltinsAt mg (P x.1))->FnOk l.prog w (Aa (K w.params) (xs.map λ x=>(P x.1,x.2))) mg base CX0 k fa fd ["_law_script"] (spF (Aa (K w.params) (xs.map λ x=>(P x.1,x.2))) 1 F)) :
    PySem.W.WalkO q loose XP YP l.row.toRowW d [] (λ f vs=>PySem.call f vs):=by
  refine Att.attach_call hn hdf λ w s₀ s₁ mg mb fa o pm cd doc a vs ns Gr Y ho hd hcd hmg hobj hints hlen hg=>?_
  have KX:=hY w _ Y
  have each:∀ x:Str,∃ cp:Addr × Addr,(∃ y ∈ xs,y.1=x)->(∃ cc,s₁.heap.TableAt cc cp.2 #[])/\CodeHd s₁.heap cp.1 cp.2/\∃ a o fd,mg x=some (.ref a)/\s₁.heap.get? a=some o/\o.data=.func fd/\fd.code=.ref cp.1:=by
    intro x
    by_cases hx:∃ y ∈ xs,y.1=x
    . obtain⟨y,hy,rfl⟩:=hx
      obtain⟨dr,hdr⟩:=hdr y hy
      have hnm:dr.name=y.1:=beq_iff_eq.mp (List.find?_some (p:=λ e:DefRec=>e.name == y.1) hdr)
      obtain⟨a',o',fd',c,P,h1,h2,h3,h4,h5,h6⟩:=Gr.T.tab dr (List.mem_of_find?_eq_some hdr)
      rw[hnm]at h1
      exact⟨(c,P),λ _=>⟨⟨_,h6⟩,CodeHd.of h5 h6,a',o',fd',h1,h2,h3,h4⟩⟩
    . exact⟨(0,0),λ h=>absurd h hx⟩
  obtain⟨cp,hcp⟩:=Classical.skolem.mp each
  have hcp:∀ x ∈ xs,(∃ cc,s₁.heap.TableAt cc (cp x.1).2 #[])/\CodeHd s₁.heap (cp x.1).1 (cp x.1).2/\∃ a o fd,mg x.1=some (.ref a)/\s₁.heap.get? a=some o/\o.data=.func fd/\fd.code=.ref (cp x.1).1:=λ x hx=>hcp x.1 ⟨x,hx,rfl⟩
  have hts:∀ P ∈ (xs.map λ x=>((cp x.1).2,x.2)).map (·.1),∃ x ∈ xs,P=(cp x.1).2:=λ P hP=>by
    obtain⟨t,ht,rfl⟩:=List.mem_map.mp hP
    obtain⟨x,hx,rfl⟩:=List.mem_map.mp ht
    exact⟨x,hx,rfl⟩
  have hP:∀ x ∈ xs,s₁.heap.get? (cp x.1).2=some (tabObj #[]):=λ x hx=>by
    obtain⟨⟨cc,t⟩,_⟩:=hcp x hx;exact t.2
  have hmP:mainGlobals ∉ (xs.map λ x=>((cp x.1).2,x.2)).map (·.1):=λ z=>by
    obtain⟨x,hx,ez⟩:=hts _ z
    obtain⟨o,es,ep,e,dd,_⟩:=Gr.T.g
    rw[ez,hP x hx]at e;cases e;cases dd
  obtain⟨⟨g,hgl⟩,fd,hb,hFn⟩:=G w mg fa _ (λ x=>(cp x).1) (λ x=>(cp x).2) KX Gr.T.g hmg λ x hx=>⟨hP x hx,(hcp x hx).2⟩
  refine PV (ts:=xs.map λ x=>((cp x.1).2,x.2)) (K:=Aa (K w.params) (xs.map λ x=>((cp x.1).2,x.2))) (UI KX hgl hmP) Gr.T.g Gr.T.b Gr.T.builtins Gr.T.nolimit hg hobj hints (Nat.le_trans hlen hn2) hr (λ P hp=>by obtain⟨x,hx,rfl⟩:=hts P hp;exact(hcp x hx).1) (λ P hp=>UH hmP hp) (K9 _ _) (λ base kb nb keep=>hFn base kb nb (λ x hx=>?_) λ x hx=>?_) hb (hF ns)
  . obtain⟨oc,vs',file,tf,flags,tg,inF,text,tt,e1,r1,r2,r3,r4,r5,r6,r7,r8,hne⟩:=(hcp x hx).2.1
    have hn:(cp x.1).1 ∉ (xs.map λ x=>((cp x.1).2,x.2)).map (·.1):=λ z=>by
      obtain⟨y,hy,ez⟩:=hts _ z
      rw[ez,hP y hy]at e1;cases e1;cases r1
    exact⟨oc,vs',file,tf,flags,tg,inF,text,tt,keep (cp x.1).1 oc hn (λ z=>by rw[z,hobj]at e1;cases e1;exact absurd (show Value.type "list"=Value.type "code" from r1) (by decide)) e1,r1,r2,r3,r4,r5,r6,r7,r8,hne⟩
  . obtain⟨bm,ob,b1,b2,b3,b4,b5,b6⟩:=Gr.T.bmain
    have nP:∀ y ∈ xs,bm ≠ (cp y.1).2:=λ y hy z=>by rw[z,hP y hy]at b3;cases b3;cases b4
    have hn:bm ∉ (xs.map λ x=>((cp x.1).2,x.2)).map (·.1):=λ z=>by
      obtain⟨y,hy,ez⟩:=hts _ z
      exact nP y hy ez
    refine⟨bm,ob,b1,b2,λ z=>?_,nP x hx,keep bm ob hn (λ z=>by rw[z,hobj]at b3;cases b3;exact absurd (show Value.type "list"=Value.type "module" from b4) (by decide)) b3,b4,b5,b6⟩
    obtain⟨o,es,ep,e,dd,_⟩:=Gr.T.g
    rw[<- z,b3]at e;cases e;rw[b6]at dd;cases dd
end L2
namespace T69
open PySem L2 PySem.W PyProof.Rows
noncomputable abbrev xS:List (Str × Str × Nat × Nat):=[]
noncomputable abbrev tS(P:Str->Addr):List Tb:=xS.map λ x=>(P x.1,x.2)
set_option maxHeartbeats 4000000 in
theorem all_mk{l:PySem.W.OpenLaw}{w:World}{K:PySem.W.Frag}{h:Heap}{mg:Str->Option Value}{fa f0 f1 f2 f3 f4 f5 f6 f7 f8 f9 f10 f11 f12 f13 f14 f15 f16 f17 f18 f19 f20 f21 f22 f23 f24 f25 f26 f27 f28 f29 f30 f31 f32:Addr}(X:K.In h)(G:h.Ns mainGlobals mg){c P:Str->Addr}(hfa:mg "law"=some (.ref fa))(hx:∀ x ∈ xS,h.get? (P x.1)=some (tabObj #[])/\CodeHd h (c x.1) (P x.1)/\∃ a o fd,mg x.1=some (.ref a)/\h.get? a=some o/\o.data=.func fd/\fd.code=.ref (c x.1))
    {od0 an0 od1 an1 od2 an2 od3 an3 od4 an4 od5 an5 od6 an6 od7 an7 od8 an8 od9 an9 od10 an10 od11 an11 od12 an12 od13 an13 od14 an14 od15 an15 od16 an16 od17 an17 od18 an18 od19 an19 od20 an20 od21 an21 od22 an22 od23 an23 od24 an24 od25 an25 od26 an26 od27 an27 od28 an28 od29 an29 od30 an30 od31 an31 od32 an32:Option Addr} {sl0 sl1 sl2 sl3 sl4 sl5 sl6 sl7 sl8 sl9 sl10 sl11 sl12 sl13 sl14 sl15 sl16 sl17 sl18 sl19 sl20 sl21 sl22 sl23 sl24 sl25 sl26 sl27 sl28 sl29 sl30 sl31 sl32:Array (Option Value)} {oc0 kV0 dc0 pm0 cd0 ct0 oc1 kV1 dc1 pm1 cd1 ct1 oc2 kV2 dc2 pm2 cd2 ct2 oc3 kV3 dc3 pm3 cd3 ct3 oc4 kV4 dc4 pm4 cd4 ct4 oc5 kV5 dc5 pm5 cd5 ct5 oc6 kV6 dc6 pm6 cd6 ct6 oc7 kV7 dc7 pm7 cd7 ct7 oc8 kV8 dc8 pm8 cd8 ct8 oc9 kV9 dc9 pm9 cd9 ct9 oc10 kV10 dc10 pm10 cd10 ct10 oc11 kV11 dc11 pm11 cd11 ct11 oc12 kV12 dc12 pm12 cd12 ct12 oc13 kV13 dc13 pm13 cd13 ct13 oc14 kV14 dc14 pm14 cd14 ct14 oc15 kV15 dc15 pm15 cd15 ct15 oc16 kV16 dc16 pm16 cd16 ct16 oc17 kV17 dc17 pm17 cd17 ct17 oc18 kV18 dc18 pm18 cd18 ct18 oc19 kV19 dc19 pm19 cd19 ct19 oc20 kV20 dc20 pm20 cd20 ct20 oc21 kV21 dc21 pm21 cd21 ct21 oc22 kV22 dc22 pm22 cd22 ct22 oc23 kV23 dc23 pm23 cd23 ct23 oc24 kV24 dc24 pm24 cd24 ct24 oc25 kV25 dc25 pm25 cd25 ct25 oc26 kV26 dc26 pm26 cd26 ct26 oc27 kV27 dc27 pm27 cd27 ct27 oc28 kV28 dc28 pm28 cd28 ct28 oc29 kV29 dc29 pm29 cd29 ct29 oc30 kV30 dc30 pm30 cd30 ct30 oc31 kV31 dc31 pm31 cd31 ct31 oc32 kV32 dc32 pm32 cd32 ct32:Value}
     (a0:PySem.W.nsIn K mainGlobals "law"=some (some (.ref f0))) (l0:K.lookup f0=some ⟨oc0,od0,.func (PySem.W.fnOf "law" "law" (AU EM) (AT EM) (A9 EM) .none kV0 dc0 pm0 an0 cd0 ct0),sl0⟩) (c0:PySem.W.codeIn K cd0 "law"=true) (k0:PySem.W.keepIn K (.ref f0)=true)
    (a1:PySem.W.nsIn K mainGlobals "weight_of"=some (some (.ref f1))) (l1:K.lookup f1=some ⟨oc1,od1,.func (PySem.W.fnOf "weight_of" "weight_of" (AU Bq) (AT Bq) (A9 Bq) .none kV1 dc1 pm1 an1 cd1 ct1),sl1⟩) (c1:PySem.W.codeIn K cd1 "weight_of"=true) (k1:PySem.W.keepIn K (.ref f1)=true)
    (a2:PySem.W.nsIn K mainGlobals "same_coming"=some (some (.ref f2))) (l2:K.lookup f2=some ⟨oc2,od2,.func (PySem.W.fnOf "same_coming" "same_coming" (AU Bc) (AT Bc) (A9 Bc) .none kV2 dc2 pm2 an2 cd2 ct2),sl2⟩) (c2:PySem.W.codeIn K cd2 "same_coming"=true) (k2:PySem.W.keepIn K (.ref f2)=true)
    (a3:PySem.W.nsIn K mainGlobals "one_coming"=some (some (.ref f3))) (l3:K.lookup f3=some ⟨oc3,od3,.func (PySem.W.fnOf "one_coming" "one_coming" (AU Bv) (AT Bv) (A9 Bv) .none kV3 dc3 pm3 an3 cd3 ct3),sl3⟩) (c3:PySem.W.codeIn K cd3 "one_coming"=true) (k3:PySem.W.keepIn K (.ref f3)=true)
    (a4:PySem.W.nsIn K mainGlobals "refuse_other_costs"=some (some (.ref f4))) (l4:K.lookup f4=some ⟨oc4,od4,.func (PySem.W.fnOf "refuse_other_costs" "refuse_other_costs" (AU Aw) (AT Aw) (A9 Aw) .none kV4 dc4 pm4 an4 cd4 ct4),sl4⟩) (c4:PySem.W.codeIn K cd4 "refuse_other_costs"=true) (k4:PySem.W.keepIn K (.ref f4)=true)
    (a5:PySem.W.nsIn K mainGlobals "weighted_coming"=some (some (.ref f5))) (l5:K.lookup f5=some ⟨oc5,od5,.func (PySem.W.fnOf "weighted_coming" "weighted_coming" (AU Ax) (AT Ax) (A9 Ax) .none kV5 dc5 pm5 an5 cd5 ct5),sl5⟩) (c5:PySem.W.codeIn K cd5 "weighted_coming"=true) (k5:PySem.W.keepIn K (.ref f5)=true)
    (a6:PySem.W.nsIn K mainGlobals "pair_sum_of"=some (some (.ref f6))) (l6:K.lookup f6=some ⟨oc6,od6,.func (PySem.W.fnOf "pair_sum_of" "pair_sum_of" (AU Be) (AT Be) (A9 Be) .none kV6 dc6 pm6 an6 cd6 ct6),sl6⟩) (c6:PySem.W.codeIn K cd6 "pair_sum_of"=true) (k6:PySem.W.keepIn K (.ref f6)=true)
    (a7:PySem.W.nsIn K mainGlobals "pair_sum"=some (some (.ref f7))) (l7:K.lookup f7=some ⟨oc7,od7,.func (PySem.W.fnOf "pair_sum" "pair_sum" (AU CS) (AT CS) (A9 CS) .none kV7 dc7 pm7 an7 cd7 ct7),sl7⟩) (c7:PySem.W.codeIn K cd7 "pair_sum"=true) (k7:PySem.W.keepIn K (.ref f7)=true)
    (a8:PySem.W.nsIn K mainGlobals "is_forest"=some (some (.ref f8))) (l8:K.lookup f8=some ⟨oc8,od8,.func (PySem.W.fnOf "is_forest" "is_forest" (AU CA) (AT CA) (A9 CA) .none kV8 dc8 pm8 an8 cd8 ct8),sl8⟩) (c8:PySem.W.codeIn K cd8 "is_forest"=true) (k8:PySem.W.keepIn K (.ref f8)=true)
    (a9:PySem.W.nsIn K mainGlobals "refuse_no_forest"=some (some (.ref f9))) (l9:K.lookup f9=some ⟨oc9,od9,.func (PySem.W.fnOf "refuse_no_forest" "refuse_no_forest" (AU B1) (AT B1) (A9 B1) .none kV9 dc9 pm9 an9 cd9 ct9),sl9⟩) (c9:PySem.W.codeIn K cd9 "refuse_no_forest"=true) (k9:PySem.W.keepIn K (.ref f9)=true)
    (a10:PySem.W.nsIn K mainGlobals "less"=some (some (.ref f10))) (l10:K.lookup f10=some ⟨oc10,od10,.func (PySem.W.fnOf "less" "less" (AU DT) (AT DT) (A9 DT) .none kV10 dc10 pm10 an10 cd10 ct10),sl10⟩) (c10:PySem.W.codeIn K cd10 "less"=true) (k10:PySem.W.keepIn K (.ref f10)=true)
    (a11:PySem.W.nsIn K mainGlobals "falling"=some (some (.ref f11))) (l11:K.lookup f11=some ⟨oc11,od11,.func (PySem.W.fnOf "falling" "falling" (AU CB) (AT CB) (A9 CB) .none kV11 dc11 pm11 an11 cd11 ct11),sl11⟩) (c11:PySem.W.codeIn K cd11 "falling"=true) (k11:PySem.W.keepIn K (.ref f11)=true)
    (a12:PySem.W.nsIn K mainGlobals "common_divisor"=some (some (.ref f12))) (l12:K.lookup f12=some ⟨oc12,od12,.func (PySem.W.fnOf "common_divisor" "common_divisor" (AU BC) (AT BC) (A9 BC) .none kV12 dc12 pm12 an12 cd12 ct12),sl12⟩) (c12:PySem.W.codeIn K cd12 "common_divisor"=true) (k12:PySem.W.keepIn K (.ref f12)=true)
    (a13:PySem.W.nsIn K mainGlobals "fraction"=some (some (.ref f13))) (l13:K.lookup f13=some ⟨oc13,od13,.func (PySem.W.fnOf "fraction" "fraction" (AU C4) (AT C4) (A9 C4) .none kV13 dc13 pm13 an13 cd13 ct13),sl13⟩) (c13:PySem.W.codeIn K cd13 "fraction"=true) (k13:PySem.W.keepIn K (.ref f13)=true)
    (a14:PySem.W.nsIn K mainGlobals "length_of"=some (some (.ref f14))) (l14:K.lookup f14=some ⟨oc14,od14,.func (PySem.W.fnOf "length_of" "length_of" (AU C9) (AT C9) (A9 C9) .none kV14 dc14 pm14 an14 cd14 ct14),sl14⟩) (c14:PySem.W.codeIn K cd14 "length_of"=true) (k14:PySem.W.keepIn K (.ref f14)=true)
    (a15:PySem.W.nsIn K mainGlobals "ratio_of"=some (some (.ref f15))) (l15:K.lookup f15=some ⟨oc15,od15,.func (PySem.W.fnOf "ratio_of" "ratio_of" (AU BV) (AT BV) (A9 BV) .none kV15 dc15 pm15 an15 cd15 ct15),sl15⟩) (c15:PySem.W.codeIn K cd15 "ratio_of"=true) (k15:PySem.W.keepIn K (.ref f15)=true)
    (a16:PySem.W.nsIn K mainGlobals "row_of"=some (some (.ref f16))) (l16:K.lookup f16=some ⟨oc16,od16,.func (PySem.W.fnOf "row_of" "row_of" (AU CY) (AT CY) (A9 CY) .none kV16 dc16 pm16 an16 cd16 ct16),sl16⟩) (c16:PySem.W.codeIn K cd16 "row_of"=true) (k16:PySem.W.keepIn K (.ref f16)=true)
    (a17:PySem.W.nsIn K mainGlobals "line_of"=some (some (.ref f17))) (l17:K.lookup f17=some ⟨oc17,od17,.func (PySem.W.fnOf "line_of" "line_of" (AU C8) (AT C8) (A9 C8) .none kV17 dc17 pm17 an17 cd17 ct17),sl17⟩) (c17:PySem.W.codeIn K cd17 "line_of"=true) (k17:PySem.W.keepIn K (.ref f17)=true)
    (a18:PySem.W.nsIn K mainGlobals "joined"=some (some (.ref f18))) (l18:K.lookup f18=some ⟨oc18,od18,.func (PySem.W.fnOf "joined" "joined" (AU DU) (AT DU) (A9 DU) .none kV18 dc18 pm18 an18 cd18 ct18),sl18⟩) (c18:PySem.W.codeIn K cd18 "joined"=true) (k18:PySem.W.keepIn K (.ref f18)=true)
    (a19:PySem.W.nsIn K mainGlobals "minus"=some (some (.ref f19))) (l19:K.lookup f19=some ⟨oc19,od19,.func (PySem.W.fnOf "minus" "minus" (AU Du) (AT Du) (A9 Du) .none kV19 dc19 pm19 an19 cd19 ct19),sl19⟩) (c19:PySem.W.codeIn K cd19 "minus"=true) (k19:PySem.W.keepIn K (.ref f19)=true)
    (a20:PySem.W.nsIn K mainGlobals "prices_of"=some (some (.ref f20))) (l20:K.lookup f20=some ⟨oc20,od20,.func (PySem.W.fnOf "prices_of" "prices_of" (AU C7) (AT C7) (A9 C7) .none kV20 dc20 pm20 an20 cd20 ct20),sl20⟩) (c20:PySem.W.codeIn K cd20 "prices_of"=true) (k20:PySem.W.keepIn K (.ref f20)=true)
    (a21:PySem.W.nsIn K mainGlobals "forest_order"=some (some (.ref f21))) (l21:K.lookup f21=some ⟨oc21,od21,.func (PySem.W.fnOf "forest_order" "forest_order" (AU BU) (AT BU) (A9 BU) .none kV21 dc21 pm21 an21 cd21 ct21),sl21⟩) (c21:PySem.W.codeIn K cd21 "forest_order"=true) (k21:PySem.W.keepIn K (.ref f21)=true)
    (a22:PySem.W.nsIn K mainGlobals "_law_tape"=some (some (.ref f22))) (l22:K.lookup f22=some ⟨oc22,od22,.func (PySem.W.fnOf "_law_tape" "_law_tape" (AU ER) (AT ER) (A9 ER) .none kV22 dc22 pm22 an22 cd22 ct22),sl22⟩) (c22:PySem.W.codeIn K cd22 "_law_tape"=true) (k22:PySem.W.keepIn K (.ref f22)=true)
    (a23:PySem.W.nsIn K mainGlobals "_law_pick"=some (some (.ref f23))) (l23:K.lookup f23=some ⟨oc23,od23,.func (PySem.W.fnOf "_law_pick" "_law_pick" (AU E2) (AT E2) (A9 E2) .none kV23 dc23 pm23 an23 cd23 ct23),sl23⟩) (c23:PySem.W.codeIn K cd23 "_law_pick"=true) (k23:PySem.W.keepIn K (.ref f23)=true)
    (a24:PySem.W.nsIn K mainGlobals "_law_row"=some (some (.ref f24))) (l24:K.lookup f24=some ⟨oc24,od24,.func (PySem.W.fnOf "_law_row" "_law_row" (AU Fa) (AT Fa) (A9 Fa) .none kV24 dc24 pm24 an24 cd24 ct24),sl24⟩) (c24:PySem.W.codeIn K cd24 "_law_row"=true) (k24:PySem.W.keepIn K (.ref f24)=true)
    (a25:PySem.W.nsIn K mainGlobals "_law_cost"=some (some (.ref f25))) (l25:K.lookup f25=some ⟨oc25,od25,.func (PySem.W.fnOf "_law_cost" "_law_cost" (AU ES) (AT ES) (A9 ES) .none kV25 dc25 pm25 an25 cd25 ct25),sl25⟩) (c25:PySem.W.codeIn K cd25 "_law_cost"=true) (k25:PySem.W.keepIn K (.ref f25)=true)
    (a26:PySem.W.nsIn K mainGlobals "run"=some (some (.ref f26))) (l26:K.lookup f26=some ⟨oc26,od26,.func (PySem.W.fnOf "run" "run" (AU FZ) (AT FZ) (A9 FZ) .none kV26 dc26 pm26 an26 cd26 ct26),sl26⟩) (c26:PySem.W.codeIn K cd26 "run"=true) (k26:PySem.W.keepIn K (.ref f26)=true)
    (a27:PySem.W.nsIn K mainGlobals "ends_of"=some (some (.ref f27))) (l27:K.lookup f27=some ⟨oc27,od27,.func (PySem.W.fnOf "ends_of" "ends_of" (AU Ch) (AT Ch) (A9 Ch) .none kV27 dc27 pm27 an27 cd27 ct27),sl27⟩) (c27:PySem.W.codeIn K cd27 "ends_of"=true) (k27:PySem.W.keepIn K (.ref f27)=true)
    (a28:PySem.W.nsIn K mainGlobals "steps_at"=some (some (.ref f28))) (l28:K.lookup f28=some ⟨oc28,od28,.func (PySem.W.fnOf "steps_at" "steps_at" (AU CQ) (AT CQ) (A9 CQ) .none kV28 dc28 pm28 an28 cd28 ct28),sl28⟩) (c28:PySem.W.codeIn K cd28 "steps_at"=true) (k28:PySem.W.keepIn K (.ref f28)=true)
    (a29:PySem.W.nsIn K mainGlobals "cost_at"=some (some (.ref f29))) (l29:K.lookup f29=some ⟨oc29,od29,.func (PySem.W.fnOf "cost_at" "cost_at" (AU Ci) (AT Ci) (A9 Ci) .none kV29 dc29 pm29 an29 cd29 ct29),sl29⟩) (c29:PySem.W.codeIn K cd29 "cost_at"=true) (k29:PySem.W.keepIn K (.ref f29)=true)
    (a30:PySem.W.nsIn K mainGlobals "costs_of"=some (some (.ref f30))) (l30:K.lookup f30=some ⟨oc30,od30,.func (PySem.W.fnOf "costs_of" "costs_of" (AU CT) (AT CT) (A9 CT) .none kV30 dc30 pm30 an30 cd30 ct30),sl30⟩) (c30:PySem.W.codeIn K cd30 "costs_of"=true) (k30:PySem.W.keepIn K (.ref f30)=true)
    (a31:PySem.W.nsIn K mainGlobals "worth"=some (some (.ref f31))) (l31:K.lookup f31=some ⟨oc31,od31,.func (PySem.W.fnOf "worth" "worth" (AU Dt) (AT Dt) (A9 Dt) .none kV31 dc31 pm31 an31 cd31 ct31),sl31⟩) (c31:PySem.W.codeIn K cd31 "worth"=true) (k31:PySem.W.keepIn K (.ref f31)=true)
    (a32:PySem.W.nsIn K mainGlobals "_law_worth"=some (some (.ref f32))) (l32:K.lookup f32=some ⟨oc32,od32,.func (PySem.W.fnOf "_law_worth" "_law_worth" (AU DS) (AT DS) (A9 DS) .none kV32 dc32 pm32 an32 cd32 ct32),sl32⟩) (c32:PySem.W.codeIn K cd32 "_law_worth"=true) (k32:PySem.W.keepIn K (.ref f32)=true)
    (z_list:PySem.W.nsIn K mainGlobals "list"=some none)
    (z_tuple:PySem.W.nsIn K mainGlobals "tuple"=some none)
    (z_len:PySem.W.nsIn K mainGlobals "len"=some none)
    (z_range:PySem.W.nsIn K mainGlobals "range"=some none)
    (z_repr:PySem.W.nsIn K mainGlobals "repr"=some none)
    (z_sum:PySem.W.nsIn K mainGlobals "sum"=some none)
    (z_min:PySem.W.nsIn K mainGlobals "min"=some none)
    (z_max:PySem.W.nsIn K mainGlobals "max"=some none)
    (z_abs:PySem.W.nsIn K mainGlobals "abs"=some none)
    (z_all:PySem.W.nsIn K mainGlobals "all"=some none)
    (z_any:PySem.W.nsIn K mainGlobals "any"=some none)
    (z_sorted:PySem.W.nsIn K mainGlobals "sorted"=some none)
    (z_zip:PySem.W.nsIn K mainGlobals "zip"=some none)
    (z_isinstance:PySem.W.nsIn K mainGlobals "isinstance"=some none)
    (z_int:PySem.W.nsIn K mainGlobals "int"=some none)
    (z_bool:PySem.W.nsIn K mainGlobals "bool"=some none)
    (z_str:PySem.W.nsIn K mainGlobals "str"=some none)
    (z_set:PySem.W.nsIn K mainGlobals "set"=some none)
    (z_enumerate:PySem.W.nsIn K mainGlobals "enumerate"=some none)
    (z_reversed:PySem.W.nsIn K mainGlobals "reversed"=some none)
    (z_dict:PySem.W.nsIn K mainGlobals "dict"=some none) :
    (∃ g,K.lookup mainGlobals=some g)/\∃ fd:FuncData,(∀ (s:Shared) (v:Value),BindsTo s fd ⟨[v],[]⟩ [("_law_script",v)])/\∀ base:Heap,(Aa K (tS P)).In base->base.Ns mainGlobals mg->(∀ x ∈ xS,CodeHd base (c x.1) (P x.1))->(∀ x ∈ xS,base.BuiltinsAt mg (P x.1))->FnOk l.prog w (Aa K (tS P)) mg base CX0 25 fa fd ["_law_script"] (spF (Aa K (tS P)) 1 F_law):=by
  have hP:∀ P' ∈ (tS P).map (·.1),h.get? P'=some (tabObj #[]):=λ P' hp=>by
    obtain⟨t,ht,rfl⟩:=List.mem_map.mp hp
    obtain⟨x,hxx,rfl⟩:=List.mem_map.mp ht
    exact(hx x hxx).1
  have e:=hfa.symm.trans (PySem.W.mg_of X G a0)
  cases e
  have F0:=Fun.mark (ts:=tS P) (Ar (st:=EM) l0 c0 k0) X hP
  have D0:DefAt (Aa K (tS P)) mg "law" EM _ _ ["_law_script"]:=⟨F0,PySem.W.mg_of X G a0,F0.binds (ps:=["_law_script"]) λ _ _ _ _ _ _ us hl=>match us,hl with | [_],_=>rfl⟩
  have F1:=Fun.mark (ts:=tS P) (Ar (st:=Bq) l1 c1 k1) X hP
  have D1:DefAt (Aa K (tS P)) mg "weight_of" Bq _ _ ["work"]:=⟨F1,PySem.W.mg_of X G a1,F1.binds (ps:=["work"]) λ _ _ _ _ _ _ us hl=>match us,hl with | [_],_=>rfl⟩
  have F2:=Fun.mark (ts:=tS P) (Ar (st:=Bc) l2 c2 k2) X hP
  have D2:DefAt (Aa K (tS P)) mg "same_coming" Bc _ _ ["works"]:=⟨F2,PySem.W.mg_of X G a2,F2.binds (ps:=["works"]) λ _ _ _ _ _ _ us hl=>match us,hl with | [_],_=>rfl⟩
  have F3:=Fun.mark (ts:=tS P) (Ar (st:=Bv) l3 c3 k3) X hP
  have D3:DefAt (Aa K (tS P)) mg "one_coming" Bv _ _ ["works"]:=⟨F3,PySem.W.mg_of X G a3,F3.binds (ps:=["works"]) λ _ _ _ _ _ _ us hl=>match us,hl with | [_],_=>rfl⟩
  have F4:=Fun.mark (ts:=tS P) (Ar (st:=Aw) l4 c4 k4) X hP
  have D4:DefAt (Aa K (tS P)) mg "refuse_other_costs" Aw _ _ ["works","word"]:=⟨F4,PySem.W.mg_of X G a4,F4.binds (ps:=["works","word"]) λ _ _ _ _ _ _ us hl=>match us,hl with | [_,_],_=>rfl⟩
  have F5:=Fun.mark (ts:=tS P) (Ar (st:=Ax) l5 c5 k5) X hP
  have D5:DefAt (Aa K (tS P)) mg "weighted_coming" Ax _ _ ["works"]:=⟨F5,PySem.W.mg_of X G a5,F5.binds (ps:=["works"]) λ _ _ _ _ _ _ us hl=>match us,hl with | [_],_=>rfl⟩
  have F6:=Fun.mark (ts:=tS P) (Ar (st:=Be) l6 c6 k6) X hP
  have D6:DefAt (Aa K (tS P)) mg "pair_sum_of" Be _ _ ["coming","lengths","weights"]:=⟨F6,PySem.W.mg_of X G a6,F6.binds (ps:=["coming","lengths","weights"]) λ _ _ _ _ _ _ us hl=>match us,hl with | [_,_,_],_=>rfl⟩
  have F7:=Fun.mark (ts:=tS P) (Ar (st:=CS) l7 c7 k7) X hP
  have D7:DefAt (Aa K (tS P)) mg "pair_sum" CS _ _ ["works"]:=⟨F7,PySem.W.mg_of X G a7,F7.binds (ps:=["works"]) λ _ _ _ _ _ _ us hl=>match us,hl with | [_],_=>rfl⟩
  have F8:=Fun.mark (ts:=tS P) (Ar (st:=CA) l8 c8 k8) X hP
  have D8:DefAt (Aa K (tS P)) mg "is_forest" CA _ _ ["many","wishes"]:=⟨F8,PySem.W.mg_of X G a8,F8.binds (ps:=["many","wishes"]) λ _ _ _ _ _ _ us hl=>match us,hl with | [_,_],_=>rfl⟩
  have F9:=Fun.mark (ts:=tS P) (Ar (st:=B1) l9 c9 k9) X hP
  have D9:DefAt (Aa K (tS P)) mg "refuse_no_forest" B1 _ _ ["works","wishes"]:=⟨F9,PySem.W.mg_of X G a9,F9.binds (ps:=["works","wishes"]) λ _ _ _ _ _ _ us hl=>match us,hl with | [_,_],_=>rfl⟩
  have F10:=Fun.mark (ts:=tS P) (Ar (st:=DT) l10 c10 k10) X hP
  have D10:DefAt (Aa K (tS P)) mg "less" DT _ _ ["one","other"]:=⟨F10,PySem.W.mg_of X G a10,F10.binds (ps:=["one","other"]) λ _ _ _ _ _ _ us hl=>match us,hl with | [_,_],_=>rfl⟩
  have F11:=Fun.mark (ts:=tS P) (Ar (st:=CB) l11 c11 k11) X hP
  have D11:DefAt (Aa K (tS P)) mg "falling" CB _ _ ["ratios"]:=⟨F11,PySem.W.mg_of X G a11,F11.binds (ps:=["ratios"]) λ _ _ _ _ _ _ us hl=>match us,hl with | [_],_=>rfl⟩
  have F12:=Fun.mark (ts:=tS P) (Ar (st:=BC) l12 c12 k12) X hP
  have D12:DefAt (Aa K (tS P)) mg "common_divisor" BC _ _ ["one","other"]:=⟨F12,PySem.W.mg_of X G a12,F12.binds (ps:=["one","other"]) λ _ _ _ _ _ _ us hl=>match us,hl with | [_,_],_=>rfl⟩
  have F13:=Fun.mark (ts:=tS P) (Ar (st:=C4) l13 c13 k13) X hP
  have D13:DefAt (Aa K (tS P)) mg "fraction" C4 _ _ ["top","bottom"]:=⟨F13,PySem.W.mg_of X G a13,F13.binds (ps:=["top","bottom"]) λ _ _ _ _ _ _ us hl=>match us,hl with | [_,_],_=>rfl⟩
  have F14:=Fun.mark (ts:=tS P) (Ar (st:=C9) l14 c14 k14) X hP
  have D14:DefAt (Aa K (tS P)) mg "length_of" C9 _ _ ["works","some"]:=⟨F14,PySem.W.mg_of X G a14,F14.binds (ps:=["works","some"]) λ _ _ _ _ _ _ us hl=>match us,hl with | [_,_],_=>rfl⟩
  have F15:=Fun.mark (ts:=tS P) (Ar (st:=BV) l15 c15 k15) X hP
  have D15:DefAt (Aa K (tS P)) mg "ratio_of" BV _ _ ["works","some"]:=⟨F15,PySem.W.mg_of X G a15,F15.binds (ps:=["works","some"]) λ _ _ _ _ _ _ us hl=>match us,hl with | [_,_],_=>rfl⟩
  have F16:=Fun.mark (ts:=tS P) (Ar (st:=CY) l16 c16 k16) X hP
  have D16:DefAt (Aa K (tS P)) mg "row_of" CY _ _ ["works","wishes","a"]:=⟨F16,PySem.W.mg_of X G a16,F16.binds (ps:=["works","wishes","a"]) λ _ _ _ _ _ _ us hl=>match us,hl with | [_,_,_],_=>rfl⟩
  have F17:=Fun.mark (ts:=tS P) (Ar (st:=C8) l17 c17 k17) X hP
  have D17:DefAt (Aa K (tS P)) mg "line_of" C8 _ _ ["works","wishes","some"]:=⟨F17,PySem.W.mg_of X G a17,F17.binds (ps:=["works","wishes","some"]) λ _ _ _ _ _ _ us hl=>match us,hl with | [_,_,_],_=>rfl⟩
  have F18:=Fun.mark (ts:=tS P) (Ar (st:=DU) l18 c18 k18) X hP
  have D18:DefAt (Aa K (tS P)) mg "joined" DU _ _ ["works","wishes"]:=⟨F18,PySem.W.mg_of X G a18,F18.binds (ps:=["works","wishes"]) λ _ _ _ _ _ _ us hl=>match us,hl with | [_,_],_=>rfl⟩
  have F19:=Fun.mark (ts:=tS P) (Ar (st:=Du) l19 c19 k19) X hP
  have D19:DefAt (Aa K (tS P)) mg "minus" Du _ _ ["one","other"]:=⟨F19,PySem.W.mg_of X G a19,F19.binds (ps:=["one","other"]) λ _ _ _ _ _ _ us hl=>match us,hl with | [_,_],_=>rfl⟩
  have F20:=Fun.mark (ts:=tS P) (Ar (st:=C7) l20 c20 k20) X hP
  have D20:DefAt (Aa K (tS P)) mg "prices_of" C7 _ _ ["works","wishes","a"]:=⟨F20,PySem.W.mg_of X G a20,F20.binds (ps:=["works","wishes","a"]) λ _ _ _ _ _ _ us hl=>match us,hl with | [_,_,_],_=>rfl⟩
  have F21:=Fun.mark (ts:=tS P) (Ar (st:=BU) l21 c21 k21) X hP
  have D21:DefAt (Aa K (tS P)) mg "forest_order" BU _ _ ["works","wishes"]:=⟨F21,PySem.W.mg_of X G a21,F21.binds (ps:=["works","wishes"]) λ _ _ _ _ _ _ us hl=>match us,hl with | [_,_],_=>rfl⟩
  have F22:=Fun.mark (ts:=tS P) (Ar (st:=ER) l22 c22 k22) X hP
  have D22:DefAt (Aa K (tS P)) mg "_law_tape" ER _ _ ["_law_script"]:=⟨F22,PySem.W.mg_of X G a22,F22.binds (ps:=["_law_script"]) λ _ _ _ _ _ _ us hl=>match us,hl with | [_],_=>rfl⟩
  have F23:=Fun.mark (ts:=tS P) (Ar (st:=E2) l23 c23 k23) X hP
  have D23:DefAt (Aa K (tS P)) mg "_law_pick" E2 _ _ ["_law_tape_here","_law_many"]:=⟨F23,PySem.W.mg_of X G a23,F23.binds (ps:=["_law_tape_here","_law_many"]) λ _ _ _ _ _ _ us hl=>match us,hl with | [_,_],_=>rfl⟩
  have F24:=Fun.mark (ts:=tS P) (Ar (st:=Fa) l24 c24 k24) X hP
  have D24:DefAt (Aa K (tS P)) mg "_law_row" Fa _ _ ["_law_tape_here","_law_many"]:=⟨F24,PySem.W.mg_of X G a24,F24.binds (ps:=["_law_tape_here","_law_many"]) λ _ _ _ _ _ _ us hl=>match us,hl with | [_,_],_=>rfl⟩
  have F25:=Fun.mark (ts:=tS P) (Ar (st:=ES) l25 c25 k25) X hP
  have D25:DefAt (Aa K (tS P)) mg "_law_cost" ES _ _ ["_law_works","_law_order"]:=⟨F25,PySem.W.mg_of X G a25,F25.binds (ps:=["_law_works","_law_order"]) λ _ _ _ _ _ _ us hl=>match us,hl with | [_,_],_=>rfl⟩
  have F26:=Fun.mark (ts:=tS P) (Ar (st:=FZ) l26 c26 k26) X hP
  have D26:DefAt (Aa K (tS P)) mg "run" FZ _ _ ["works","order"]:=⟨F26,PySem.W.mg_of X G a26,F26.binds (ps:=["works","order"]) λ _ _ _ _ _ _ us hl=>match us,hl with | [_,_],_=>rfl⟩
  have F27:=Fun.mark (ts:=tS P) (Ar (st:=Ch) l27 c27 k27) X hP
  have D27:DefAt (Aa K (tS P)) mg "ends_of" Ch _ _ ["works","plan"]:=⟨F27,PySem.W.mg_of X G a27,F27.binds (ps:=["works","plan"]) λ _ _ _ _ _ _ us hl=>match us,hl with | [_,_],_=>rfl⟩
  have F28:=Fun.mark (ts:=tS P) (Ar (st:=CQ) l28 c28 k28) X hP
  have D28:DefAt (Aa K (tS P)) mg "steps_at" CQ _ _ ["rows","t"]:=⟨F28,PySem.W.mg_of X G a28,F28.binds (ps:=["rows","t"]) λ _ _ _ _ _ _ us hl=>match us,hl with | [_,_],_=>rfl⟩
  have F29:=Fun.mark (ts:=tS P) (Ar (st:=Ci) l29 c29 k29) X hP
  have D29:DefAt (Aa K (tS P)) mg "cost_at" Ci _ _ ["cost","t"]:=⟨F29,PySem.W.mg_of X G a29,F29.binds (ps:=["cost","t"]) λ _ _ _ _ _ _ us hl=>match us,hl with | [_,_],_=>rfl⟩
  have F30:=Fun.mark (ts:=tS P) (Ar (st:=CT) l30 c30 k30) X hP
  have D30:DefAt (Aa K (tS P)) mg "costs_of" CT _ _ ["works","ends"]:=⟨F30,PySem.W.mg_of X G a30,F30.binds (ps:=["works","ends"]) λ _ _ _ _ _ _ us hl=>match us,hl with | [_,_],_=>rfl⟩
  have F31:=Fun.mark (ts:=tS P) (Ar (st:=Dt) l31 c31 k31) X hP
  have D31:DefAt (Aa K (tS P)) mg "worth" Dt _ _ ["works","ends","question"]:=⟨F31,PySem.W.mg_of X G a31,F31.binds (ps:=["works","ends","question"]) λ _ _ _ _ _ _ us hl=>match us,hl with | [_,_,_],_=>rfl⟩
  have F32:=Fun.mark (ts:=tS P) (Ar (st:=DS) l32 c32 k32) X hP
  have D32:DefAt (Aa K (tS P)) mg "_law_worth" DS _ _ ["_law_works","_law_order"]:=⟨F32,PySem.W.mg_of X G a32,F32.binds (ps:=["_law_works","_law_order"]) λ _ _ _ _ _ _ us hl=>match us,hl with | [_,_],_=>rfl⟩
  have B:BltA mg:=⟨PySem.W.mg_none_of X G z_list,PySem.W.mg_none_of X G z_tuple,PySem.W.mg_none_of X G z_len,PySem.W.mg_none_of X G z_range,PySem.W.mg_none_of X G z_repr,PySem.W.mg_none_of X G z_sum,PySem.W.mg_none_of X G z_min,PySem.W.mg_none_of X G z_max,PySem.W.mg_none_of X G z_abs,PySem.W.mg_none_of X G z_all,PySem.W.mg_none_of X G z_any,PySem.W.mg_none_of X G z_sorted,PySem.W.mg_none_of X G z_zip,PySem.W.mg_none_of X G z_isinstance,PySem.W.mg_none_of X G z_int,PySem.W.mg_none_of X G z_bool,PySem.W.mg_none_of X G z_str,PySem.W.mg_none_of X G z_set,PySem.W.mg_none_of X G z_enumerate,PySem.W.mg_none_of X G z_reversed,PySem.W.mg_none_of X G z_dict⟩

  have nd:((Gz (Aa K (tS P))).map (·.1)).Nodup:=by rw[K9];simp
  have hg:∃ g,K.lookup mainGlobals=some g:=by
    cases e:K.lookup mainGlobals with
    | some g=>exact⟨g,rfl⟩
    | none=>have z:=a0;unfold PySem.W.nsIn at z;rw[e]at z;cases z
  refine⟨hg,PySem.W.fnOf "law" "law" (AU EM) (AT EM) (A9 EM) .none kV0 dc0 pm0 an0 cd0 ct0,λ s v=>.of_eq rfl,λ base _ _ hd bl=>?_⟩

  have G_weight_of:=T69.ok_weight_of (P:=l.prog) (w:=w) (base:=base) D1  B
  have G_same_coming:=T69.ok_same_coming (P:=l.prog) (w:=w) (base:=base) D2  B
  have G_one_coming:=T69.ok_one_coming (P:=l.prog) (w:=w) (base:=base) D3 D2 G_same_coming B
  have G_refuse_other_costs:=T69.ok_refuse_other_costs (P:=l.prog) (w:=w) (base:=base) D4  B
  have G_weighted_coming:=T69.ok_weighted_coming (P:=l.prog) (w:=w) (base:=base) D5 D3 G_one_coming D4 G_refuse_other_costs B
  have G_pair_sum_of:=T69.ok_pair_sum_of (P:=l.prog) (w:=w) (base:=base) D6  B
  have G_pair_sum:=T69.ok_pair_sum (P:=l.prog) (w:=w) (base:=base) D7 D1 G_weight_of D5 G_weighted_coming D6 G_pair_sum_of B
  have G_is_forest:=T69.ok_is_forest (P:=l.prog) (w:=w) (base:=base) D8  B
  have G_refuse_no_forest:=T69.ok_refuse_no_forest (P:=l.prog) (w:=w) (base:=base) D9 D5 G_weighted_coming D8 G_is_forest B
  have G_less:=T69.ok_less (P:=l.prog) (w:=w) (base:=base) D10  B
  have G_falling:=T69.ok_falling (P:=l.prog) (w:=w) (base:=base) D11 D10 G_less B
  have G_common_divisor:=T69.ok_common_divisor (P:=l.prog) (w:=w) (base:=base) D12  B
  have G_fraction:=T69.ok_fraction (P:=l.prog) (w:=w) (base:=base) D13 D12 G_common_divisor B
  have G_length_of:=T69.ok_length_of (P:=l.prog) (w:=w) (base:=base) D14  B
  have G_ratio_of:=T69.ok_ratio_of (P:=l.prog) (w:=w) (base:=base) D15 D13 G_fraction D14 G_length_of D1 G_weight_of B
  have G_row_of:=T69.ok_row_of (P:=l.prog) (w:=w) (base:=base) D16 D10 G_less D11 G_falling D15 G_ratio_of D17 B
  have G_line_of:=T69.ok_line_of (P:=l.prog) (w:=w) (base:=base) D17 D10 G_less D11 G_falling D15 G_ratio_of D16 B
  have G_joined:=T69.ok_joined (P:=l.prog) (w:=w) (base:=base) D18 D9 G_refuse_no_forest D17 G_line_of B
  have G_minus:=T69.ok_minus (P:=l.prog) (w:=w) (base:=base) D19 D13 G_fraction B
  have G_prices_of:=T69.ok_prices_of (P:=l.prog) (w:=w) (base:=base) D20 D19 G_minus D15 G_ratio_of D16 G_row_of B
  have G_forest_order:=T69.ok_forest_order (P:=l.prog) (w:=w) (base:=base) D21 D18 G_joined D20 G_prices_of B
  have G_tape:=T69.ok_tape (P:=l.prog) (w:=w) (base:=base) D22  B
  have G_pick:=T69.ok_pick (P:=l.prog) (w:=w) (base:=base) D23  B
  have G_row:=T69.ok_row (P:=l.prog) (w:=w) (base:=base) D24 D23 G_pick B
  have G_cost:=T69.ok_cost (P:=l.prog) (w:=w) (base:=base) D25  B
  have G_run:=T69.ok_run (P:=l.prog) (w:=w) (base:=base) D26  B
  have G_ends_of:=T69.ok_ends_of (P:=l.prog) (w:=w) (base:=base) D27  B
  have G_steps_at:=T69.ok_steps_at (P:=l.prog) (w:=w) (base:=base) D28  B
  have G_cost_at:=T69.ok_cost_at (P:=l.prog) (w:=w) (base:=base) D29 D28 G_steps_at B
  have G_costs_of:=T69.ok_costs_of (P:=l.prog) (w:=w) (base:=base) D30 D29 G_cost_at B
  have G_worth:=T69.ok_worth (P:=l.prog) (w:=w) (base:=base) D31 D30 G_costs_of B
  have G_lworth:=T69.ok_lworth (P:=l.prog) (w:=w) (base:=base) D32 D26 G_run D27 G_ends_of D31 G_worth B
  have G_law:=T69.ok_law (P:=l.prog) (w:=w) (base:=base) D0 D7 G_pair_sum D21 G_forest_order D22 G_tape D23 G_pick D24 G_row D25 G_cost D32 G_lworth B
  exact G_law
end T69
open PySem PySem.W PyProof.Rows
theorem PySem.W.Fast.te2232377189644521870:True:=trivial
set_option maxRecDepth 100000 in
set_option maxHeartbeats 0 in
theorem PySem.Challenge.cw_benchdays_k69_whole_lengths_and_weights_holds : PySem.Challenge.rw_benchdays_k69_whole_lengths_and_weights.Holds := by
  w_on;o_law;k_head;(case hw=>w_witness2)
  k_fill
  refine L2.walkL T69.xS (l:=PySem.Challenge.rw_benchdays_k69_whole_lengths_and_weights) (n:=63) (k:=25) (F:=T69.F_law) rfl (by decide) rfl ⟨rfl,by decide,by decide,rfl⟩ (by intro x hx;cases hx) T69.law_eq (λ w h Y=>PySem.W.kIn_of Y) ?F
  case F=>
    intro w mg fa h c P KX G hmg hx
    refine' T69.all_mk KX G hmg hx ?a0 ?l0 ?c0 ?k0 ?a1 ?l1 ?c1 ?k1 ?a2 ?l2 ?c2 ?k2 ?a3 ?l3 ?c3 ?k3 ?a4 ?l4 ?c4 ?k4 ?a5 ?l5 ?c5 ?k5 ?a6 ?l6 ?c6 ?k6 ?a7 ?l7 ?c7 ?k7 ?a8 ?l8 ?c8 ?k8 ?a9 ?l9 ?c9 ?k9 ?a10 ?l10 ?c10 ?k10 ?a11 ?l11 ?c11 ?k11 ?a12 ?l12 ?c12 ?k12 ?a13 ?l13 ?c13 ?k13 ?a14 ?l14 ?c14 ?k14 ?a15 ?l15 ?c15 ?k15 ?a16 ?l16 ?c16 ?k16 ?a17 ?l17 ?c17 ?k17 ?a18 ?l18 ?c18 ?k18 ?a19 ?l19 ?c19 ?k19 ?a20 ?l20 ?c20 ?k20 ?a21 ?l21 ?c21 ?k21 ?a22 ?l22 ?c22 ?k22 ?a23 ?l23 ?c23 ?k23 ?a24 ?l24 ?c24 ?k24 ?a25 ?l25 ?c25 ?k25 ?a26 ?l26 ?c26 ?k26 ?a27 ?l27 ?c27 ?k27 ?a28 ?l28 ?c28 ?k28 ?a29 ?l29 ?c29 ?k29 ?a30 ?l30 ?c30 ?k30 ?a31 ?l31 ?c31 ?k31 ?a32 ?l32 ?c32 ?k32 ?z_list ?z_tuple ?z_len ?z_range ?z_repr ?z_sum ?z_min ?z_max ?z_abs ?z_all ?z_any ?z_sorted ?z_zip ?z_isinstance ?z_int ?z_bool ?z_str ?z_set ?z_enumerate ?z_reversed ?z_dict
    (case a0=>k_is)
    (case l0=>k_is)
    (case c0=>k_is)
    (case k0=>k_is)
    (case a1=>k_is)
    (case l1=>k_is)
    (case c1=>k_is)
    (case k1=>k_is)
    (case a2=>k_is)
    (case l2=>k_is)
    (case c2=>k_is)
    (case k2=>k_is)
    (case a3=>k_is)
    (case l3=>k_is)
    (case c3=>k_is)
    (case k3=>k_is)
    (case a4=>k_is)
    (case l4=>k_is)
    (case c4=>k_is)
    (case k4=>k_is)
    (case a5=>k_is)
    (case l5=>k_is)
    (case c5=>k_is)
    (case k5=>k_is)
    (case a6=>k_is)
    (case l6=>k_is)
    (case c6=>k_is)
    (case k6=>k_is)
    (case a7=>k_is)
    (case l7=>k_is)
    (case c7=>k_is)
    (case k7=>k_is)
    (case a8=>k_is)
    (case l8=>k_is)
    (case c8=>k_is)
    (case k8=>k_is)
    (case a9=>k_is)
    (case l9=>k_is)
    (case c9=>k_is)
    (case k9=>k_is)
    (case a10=>k_is)
    (case l10=>k_is)
    (case c10=>k_is)
    (case k10=>k_is)
    (case a11=>k_is)
    (case l11=>k_is)
    (case c11=>k_is)
    (case k11=>k_is)
    (case a12=>k_is)
    (case l12=>k_is)
    (case c12=>k_is)
    (case k12=>k_is)
    (case a13=>k_is)
    (case l13=>k_is)
    (case c13=>k_is)
    (case k13=>k_is)
    (case a14=>k_is)
    (case l14=>k_is)
    (case c14=>k_is)
    (case k14=>k_is)
    (case a15=>k_is)
    (case l15=>k_is)
    (case c15=>k_is)
    (case k15=>k_is)
    (case a16=>k_is)
    (case l16=>k_is)
    (case c16=>k_is)
    (case k16=>k_is)
    (case a17=>k_is)
    (case l17=>k_is)
    (case c17=>k_is)
    (case k17=>k_is)
    (case a18=>k_is)
    (case l18=>k_is)
    (case c18=>k_is)
    (case k18=>k_is)
    (case a19=>k_is)
    (case l19=>k_is)
    (case c19=>k_is)
    (case k19=>k_is)
    (case a20=>k_is)
    (case l20=>k_is)
    (case c20=>k_is)
    (case k20=>k_is)
    (case a21=>k_is)
    (case l21=>k_is)
    (case c21=>k_is)
    (case k21=>k_is)
    (case a22=>k_is)
    (case l22=>k_is)
    (case c22=>k_is)
    (case k22=>k_is)
    (case a23=>k_is)
    (case l23=>k_is)
    (case c23=>k_is)
    (case k23=>k_is)
    (case a24=>k_is)
    (case l24=>k_is)
    (case c24=>k_is)
    (case k24=>k_is)
    (case a25=>k_is)
    (case l25=>k_is)
    (case c25=>k_is)
    (case k25=>k_is)
    (case a26=>k_is)
    (case l26=>k_is)
    (case c26=>k_is)
    (case k26=>k_is)
    (case a27=>k_is)
    (case l27=>k_is)
    (case c27=>k_is)
    (case k27=>k_is)
    (case a28=>k_is)
    (case l28=>k_is)
    (case c28=>k_is)
    (case k28=>k_is)
    (case a29=>k_is)
    (case l29=>k_is)
    (case c29=>k_is)
    (case k29=>k_is)
    (case a30=>k_is)
    (case l30=>k_is)
    (case c30=>k_is)
    (case k30=>k_is)
    (case a31=>k_is)
    (case l31=>k_is)
    (case c31=>k_is)
    (case k31=>k_is)
    (case a32=>k_is)
    (case l32=>k_is)
    (case c32=>k_is)
    (case k32=>k_is)
    (case z_list=>k_is)
    (case z_tuple=>k_is)
    (case z_len=>k_is)
    (case z_range=>k_is)
    (case z_repr=>k_is)
    (case z_sum=>k_is)
    (case z_min=>k_is)
    (case z_max=>k_is)
    (case z_abs=>k_is)
    (case z_all=>k_is)
    (case z_any=>k_is)
    (case z_sorted=>k_is)
    (case z_zip=>k_is)
    (case z_isinstance=>k_is)
    (case z_int=>k_is)
    (case z_bool=>k_is)
    (case z_str=>k_is)
    (case z_set=>k_is)
    (case z_enumerate=>k_is)
    (case z_reversed=>k_is)
    (case z_dict=>k_is)
