import PyProof.Rows.All
import Wide.All
import OpenK.AllK
import Wide.FinOn
import Lean
import PyProof.EqAt
import PyProof.EqKinds
import PyProof.TupleCall
import KE.KSortKey
import PyProof.ListMulRoad
import PyProof.Draws
import PyProof.EnumMake
import PyProof.ListNew
import KE.KRevIter
import KE.KMinKey
import PySem.Challenge.RW_benchdays_k39_sets_of_a_weight
set_option Elab.async false
set_option linter.all false
set_option maxRecDepth 100000
namespace L2
open PySem PySem.Spec PyProof.Rows
abbrev Key := Sum Int Str
def keyIs : Key -> Value -> Bool
  | .inl k, v => Value.isInt k v
  | .inr x, v => Value.isStrOf x v
def keyH (w : World) : Key -> Int
  | .inl k => hashInt k
  | .inr x => hashStr w x
theorem keyIs_shape : ∀ {k : Key} {v : Value}, keyIs k v = true -> (∃ i t, k = Sum.inl i /\ v = Value.int i t) ∨ (∃ x t, k = Sum.inr x /\ v = Value.str x t)
  | .inl i, v, h => by
    obtain ⟨t, e⟩ := Value.isInt_shape (k := i) (v := v) h
    exact .inl ⟨i, t, rfl, e⟩
  | .inr x, v, h => by
    obtain ⟨t, e⟩ := Value.isStrOf_shape (x := x) (v := v) h
    exact .inr ⟨x, t, rfl, e⟩
theorem keyIs_int (i : Int) (t : Tok) : keyIs (.inl i) (.int i t) = true := by simp [keyIs, Value.isInt]
theorem keyIs_str (x : Str) (t : Tok) : keyIs (.inr x) (.str x t) = true := by simp [keyIs, Value.isStrOf]
theorem key_ll (a b : Int) : decide ((Sum.inl a : Key) = Sum.inl b) = (a == b) := by
  by_cases e : a = b
  . subst e; simp
  . have h : ¬ (Sum.inl a : Key) = Sum.inl b := λ q => e (Sum.inl.inj q)
    rw [decide_eq_false h]
    exact (beq_eq_false_iff_ne.mpr e).symm
theorem key_rr (a b : Str) : decide ((Sum.inr a : Key) = Sum.inr b) = decide (a = b) := by
  by_cases e : a = b
  . subst e; simp
  . have h : ¬ (Sum.inr a : Key) = Sum.inr b := λ q => e (Sum.inr.inj q)
    rw [decide_eq_false h, decide_eq_false e]
theorem key_lr (a : Int) (b : Str) : decide ((Sum.inl a : Key) = Sum.inr b) = false := decide_eq_false (λ q => nomatch q)
theorem key_rl (a : Str) (b : Int) : decide ((Sum.inr a : Key) = Sum.inl b) = false := decide_eq_false (λ q => nomatch q)
def mixKind (prog : Program) (w : World) : PySem.KeyKind prog w Key where
  is := keyIs
  hash := keyH w
  inj := λ v a b ha hb => by
    rcases keyIs_shape ha with ⟨i, t, rfl, rfl⟩ | ⟨x, t, rfl, rfl⟩
    . rcases keyIs_shape hb with ⟨j, u, rfl, e⟩ | ⟨y, u, rfl, e⟩
      . injection e with e1 _; rw [e1]
      . exact nomatch e
    . rcases keyIs_shape hb with ⟨j, u, rfl, e⟩ | ⟨y, u, rfl, e⟩
      . exact nomatch e
      . injection e with e1 _; rw [e1]
  byValue := λ k v h => by
    rcases keyIs_shape h with ⟨i, t, rfl, rfl⟩ | ⟨x, t, rfl, rfl⟩ <;> rfl
  pyHash := λ hv h => by
    rcases keyIs_shape hv with ⟨i, t, rfl, rfl⟩ | ⟨x, t, rfl, rfl⟩
    . exact wpAny_pyHash_int h
    . exact wpAny_pyHash_str h
  eqBool := λ hu hv h => by
    rcases keyIs_shape hu with ⟨i, t, rfl, rfl⟩ | ⟨x, t, rfl, rfl⟩
    . rcases keyIs_shape hv with ⟨j, u, rfl, rfl⟩ | ⟨y, u, rfl, rfl⟩
      . rw [key_ll] at h; exact wpAny_eqBool_int h
      . rw [key_lr] at h; exact SeqAt.EqAt.int_str i t y u _ _ _ _ h
    . rcases keyIs_shape hv with ⟨j, u, rfl, rfl⟩ | ⟨y, u, rfl, rfl⟩
      . rw [key_rl] at h; exact SeqAt.EqAt.str_int x t j u _ _ _ _ h
      . rw [key_rr] at h; exact wpAny_eqBool_str h
  «strs» := λ k x t v h => by
    rcases keyIs_shape h with ⟨i, u, rfl, e⟩ | ⟨y, u, rfl, e⟩
    . exact nomatch e
    . injection e with e1 _
      subst e1
      cases v <;> rfl
theorem mixKind_int (prog : Program) (w : World) (i : Int) (t : Tok) : (mixKind prog w).is (.inl i) (.int i t) = true := keyIs_int i t
theorem mixKind_str (prog : Program) (w : World) (x : Str) (t : Tok) : (mixKind prog w).is (.inr x) (.str x t) = true := keyIs_str x t
end L2
namespace L2
open PySem PySem.Spec PyProof.Rows
inductive V where
  | non | bl (b : Bool) | int (i : Int) | str (x : Str) | byt (b : Array UInt8) | flt (b : UInt64) | ref (a : Addr) | ty (n : String)
  deriving DecidableEq
def RelV : V -> Value -> Prop
  | .non, u => u = Value.none
  | .bl b, u => u = Value.bool b
  | .int i, u => ∃ t, u = Value.int i t
  | .str x, u => ∃ t, u = Value.str x t
  | .byt b, u => ∃ t, u = Value.bytes b t
  | .flt b, u => ∃ t, u = Value.float b t
  | .ref a, u => u = Value.ref a
  | .ty n, u => u = Value.type n
abbrev Vals : List V -> List Value -> Prop := Paired RelV
theorem Vals.length {xs : List V} {us : List Value} (r : Vals xs us) : xs.length = us.length := Paired.length r
theorem Vals.get : ∀ {xs : List V} {us : List Value} {i : Nat} {x : V}, Vals xs us -> xs[i]? = some x -> ∃ u, us[i]? = some u /\ RelV x u
  | _, _, _, _, .nil, e => by simp at e
  | _, _, 0, _, .cons r _, e => by simp at e; subst e; exact ⟨_, rfl, r⟩
  | _, _, i + 1, x, .cons _ t, e => by
    obtain ⟨u, h1, h2⟩ := Vals.get (i := i) (x := x) t (by simpa using e)
    exact ⟨u, by simpa using h1, h2⟩
theorem Vals.set {x : V} {u : Value} (r : RelV x u) : ∀ {xs : List V} {us : List Value} (i : Nat), Vals xs us -> Vals (xs.set i x) (us.set i u)
  | _, _, _, .nil => .nil
  | _, _, 0, .cons _ t => .cons r t
  | _, _, i + 1, .cons q t => .cons q (Vals.set r i t)
theorem Vals.append : ∀ {xs ys : List V} {us ws : List Value}, Vals xs us -> Vals ys ws -> Vals (xs ++ ys) (us ++ ws)
  | _, _, _, _, .nil, s => s
  | _, _, _, _, .cons r t, s => .cons r (Vals.append t s)
theorem Vals.take : ∀ {xs : List V} {us : List Value} (n : Nat), Vals xs us -> Vals (xs.take n) (us.take n)
  | _, _, 0, _ => .nil
  | _, _, _ + 1, .nil => .nil
  | _, _, n + 1, .cons r t => .cons r (Vals.take n t)
theorem Vals.drop : ∀ {xs : List V} {us : List Value} (n : Nat), Vals xs us -> Vals (xs.drop n) (us.drop n)
  | _, _, 0, r => r
  | _, _, _ + 1, .nil => .nil
  | _, _, n + 1, .cons _ t => Vals.drop n t
def RelO : Option V -> Option Value -> Prop
  | some v, some u => RelV v u
  | none, none => True
  | _, _ => False
def KV {κ : Type} : List (κ × V) -> List (κ × Value) -> Prop := Paired λ (p : κ × V) (q : κ × Value) => p.1 = q.1 /\ RelV p.2 q.2
def kV : Key -> V
  | .inl i => .int i
  | .inr x => .str x
inductive HO where
  /-- a list -/
  | lst (xs : List V)
  /-- a tuple (never changes) -/
  | tup (xs : List V)
  /-- a dict whose keys are ints and texts; one whose keys are tuples of ints and texts (the empty one is both) -/
  | dK (kvs : List (Key × V)) | dT (kvs : List (List Key × V))
  /-- a set of ints: its members, its size -/
  | set (S : Int -> Bool) (n : Nat)
  /-- an instance of the class at C, its dict at dx, its attributes -/
  | ins (C dx : Addr) (fs : List (Str × V))
  /-- the dict of the instance at x -/
  | own (x : Addr)
  /-- the dict of an exception -/
  | xd (fs : List (Str × V))
  /-- a bound method, f of x -/
  | met (f x : Addr)
  /-- a range object lo, lo + 1, .. below hi -/
  | rng (lo hi : Int)
  /-- a thing that is known to the object (the script; a dict while a loop walks it): read, never written while it is so -/
  | frz (o : Obj) (u : HO)
  /-- a code object's table -/
  | tbl (ps : Array Value)
  /-- any other thing, by what is true of its one object (a def of one's own: SetO a S n := HO.ext λ h => ..) -/
  | ext (φ : Heap -> Prop)
abbrev Hp := Addr -> Option HO
def upd (H : Hp) (a : Addr) (o : HO) : Hp := λ b => if b = a then some o else H b
theorem upd_same {H : Hp} {a : Addr} {o : HO} : upd H a o a = some o := by unfold upd; rw [if_pos rfl]
theorem upd_ne {H : Hp} {a b : Addr} {o : HO} (h : b ≠ a) : upd H a o b = H b := by unfold upd; rw [if_neg h]
theorem ne_of {H : Hp} {a b : Addr} {o u : HO} (h : H a = some o) (h' : H b = some u) (d : o ≠ u) : a ≠ b := by
  intro e; subst e; rw [h] at h'; exact d (Option.some.inj h')
theorem ne_of_none {H : Hp} {a b : Addr} {o : HO} (h : H a = some o) (h' : H b = none) : a ≠ b := by
  intro e; subst e; rw [h] at h'; cases h'
section
variable (P : Program) (w : World)
def ObjOk (H : Hp) (h : Heap) (a : Addr) : HO -> Prop
  | .lst xs => xs.length <= sizeLine /\ ∃ (its : List Value) (n : Nat), Vals xs its /\ h.get? a = some { cls := .type "list", data := .seq its.toArray n }
  | .tup xs => xs.length <= sizeLine /\ ∃ its : List Value, Vals xs its /\ IsTup h a its.toArray
  | .dK kvs => kvs.length <= sizeLine /\ (a == sysModules) = false /\ ∃ vs, KV kvs vs /\ h.DictOf (mixKind P w) a vs
  | .dT kvs => kvs.length <= sizeLine /\ (a == sysModules) = false /\ ∃ xs : List (List Key × Addr × Value),
      Paired (λ (p : List Key × V) (q : List Key × Addr × Value) => p.1 = q.1 /\ H q.2.1 = some (.tup (p.1.map kV)) /\ RelV p.2 q.2.2) kvs xs /\
      ∃ o es ep, h.get? a = some o /\ o.ExactDict /\ o.data = .dict es ep /\ es.toList = xs.map (entryOfKey (tupleKind (mixKind P w))) /\ (xs.map (·.1)).Nodup
  | .set S n => h.SetOf (intKind P w) a S n
  | .ins C dx fs => H dx = some (.own a) /\ fs.length <= 1000 /\ dx ≠ a /\ h.get? a = some (PySem.W.instObj C dx) /\
      ∃ mA, h.Ns1 dx mA /\ (∀ f, RelO (fs.lookup f) (mA f)) /\ PySem.Within mA (fs.map (·.1))
  | .own _ => ∃ o, h.get? a = some o
  | .xd fs => ∃ mA, h.Ns1 a mA /\ ∀ f, RelO (fs.lookup f) (mA f)
  | .rng lo hi => ∃ t u v, h.get? a = some { cls := .type "range", data := .fields #[.int lo t, .int hi u, .int 1 v] }
  | .frz o u => h.get? a = some o /\ ObjOk H h a u
  | .tbl ps => h.get? a = some { cls := .none, data := .fields ps }
  | .met f x => h.get? a = some (PySem.W.methodObj (.ref f) (.ref x))
  | .ext φ => φ h /\ (∃ o, h.get? a = some o) /\ ∀ h1 h2 : Heap, φ h1 -> (∀ o, h1.get? a = some o -> h2.get? a = some o) -> φ h2
def HOk (H : Hp) (h : Heap) : Prop := ∀ a o, H a = some o -> ObjOk P w H h a o
end
section
variable {P : Program} {w : World} {H H' : Hp} {h h' : Heap} {a : Addr} {o : HO}
theorem ObjOk.lt (x : ObjOk P w H h a o) : a < h.objs.size := by
  cases o with
  | lst xs => obtain ⟨_, _, _, _, e⟩ := x; exact Heap.lt_size e
  | tup xs => obtain ⟨_, _, _, p⟩ := x; exact p.lt
  | dK kvs => obtain ⟨_, _, _, _, o, _, _, e, _⟩ := x; exact Heap.lt_size e
  | dT kvs => obtain ⟨_, _, _, _, o, _, _, e, _⟩ := x; exact Heap.lt_size e
  | set S n => obtain ⟨o, _, _, _, e, _⟩ := x; exact Heap.lt_size e
  | ins C dx fs => obtain ⟨_, _, _, e, _⟩ := x; exact Heap.lt_size e
  | own y => obtain ⟨_, e⟩ := x; exact Heap.lt_size e
  | xd fs => obtain ⟨_, ⟨_, _, _, e, _⟩, _⟩ := x; exact Heap.lt_size e
  | rng lo hi => obtain ⟨_, _, _, e⟩ := x; exact Heap.lt_size e
  | frz ob u => obtain ⟨e, _⟩ := x; exact Heap.lt_size e
  | tbl ps => exact Heap.lt_size (show h.get? a = some _ from x)
  | met f y => exact Heap.lt_size (show h.get? a = some _ from x)
  | ext φ => obtain ⟨_, ⟨_, e⟩, _⟩ := x; exact Heap.lt_size e
theorem Paired.mapP {α β : Type} {F G : α -> β -> Prop} : ∀ {l₁ : List α} {l₂ : List β}, Paired F l₁ l₂ -> (∀ a b, F a b -> G a b) -> Paired G l₁ l₂
  | _, _, .nil, _ => .nil
  | _, _, .cons r t, f => .cons (f _ _ r) (Paired.mapP t f)
theorem ObjOk.stay (x : ObjOk P w H h a o) (k : ∀ b u, (b = a ∨ H b = some (.own a)) -> h.get? b = some u -> h'.get? b = some u)
    (ho : ∀ b, H b = some (.own a) -> H' b = some (.own a)) (ht : ∀ b xs, H b = some (.tup xs) -> H' b = some (.tup xs)) : ObjOk P w H' h' a o := by
  induction o with
  | lst xs => obtain ⟨z, its, n, r, e⟩ := x; exact ⟨z, its, n, r, k _ _ (.inl rfl) e⟩
  | tup xs => obtain ⟨z, its, r, ob, e, c⟩ := x; exact ⟨z, its, r, ob, k _ _ (.inl rfl) e, c⟩
  | dK kvs => obtain ⟨z, y, vs, r, ob, es, ep, e, c⟩ := x; exact ⟨z, y, vs, r, ob, es, ep, k _ _ (.inl rfl) e, c⟩
  | dT kvs =>
    obtain ⟨z, y, xs, r, ob, es, ep, e, c⟩ := x
    exact ⟨z, y, xs, Paired.mapP r λ p q z => ⟨z.1, ht _ _ z.2.1, z.2.2⟩, ob, es, ep, k _ _ (.inl rfl) e, c⟩
  | set S n => obtain ⟨ob, es, ep, t, e, c⟩ := x; exact ⟨ob, es, ep, t, k _ _ (.inl rfl) e, c⟩
  | ins C dx fs =>
    obtain ⟨d, z, ne, e, mA, ⟨od, es, ep, e2, c⟩, r⟩ := x
    exact ⟨ho _ d, z, ne, k _ _ (.inl rfl) e, mA, ⟨od, es, ep, k _ _ (.inr d) e2, c⟩, r⟩
  | own y => obtain ⟨ob, e⟩ := x; exact ⟨ob, k _ _ (.inl rfl) e⟩
  | xd fs => obtain ⟨mA, ⟨od, es, ep, e, c⟩, r⟩ := x; exact ⟨mA, ⟨od, es, ep, k _ _ (.inl rfl) e, c⟩, r⟩
  | rng lo hi => obtain ⟨t, u, v, e⟩ := x; exact ⟨t, u, v, k _ _ (.inl rfl) e⟩
  | frz ob u ih => obtain ⟨e, q⟩ := x; exact ⟨k _ _ (.inl rfl) e, ih q⟩
  | tbl ps =>
    have e : h.get? a = some { cls := .none, data := .fields ps } := x
    show h'.get? a = some { cls := .none, data := .fields ps }
    exact k a _ (.inl rfl) e
  | met f y =>
    have e : h.get? a = some (PySem.W.methodObj (.ref f) (.ref y)) := x
    show h'.get? a = some (PySem.W.methodObj (.ref f) (.ref y))
    exact k a _ (.inl rfl) e
  | ext φ => obtain ⟨p, ⟨o, e⟩, st⟩ := x; exact ⟨st _ _ p λ o q => k _ _ (.inl rfl) q, ⟨o, k _ _ (.inl rfl) e⟩, st⟩
theorem HOk.lt (x : HOk P w H h) (e : H a = some o) : a < h.objs.size := (x a o e).lt
theorem HOk.fresh (x : HOk P w H h) (e : h.objs.size <= a) : H a = none := by
  cases q : H a with
  | none => rfl
  | some u => exact absurd (Nat.lt_of_lt_of_le (x.lt q) e) (Nat.lt_irrefl _)
theorem HOk.kept (x : HOk P w H h) (k : ∀ b u, h.get? b = some u -> h'.get? b = some u) : HOk P w H h' := λ a o e =>
  (x a o e).stay (λ b u _ q => k b u q) (λ _ q => q) λ _ _ q => q
theorem HOk.laid (x : HOk P w H h) (k : ∀ b u, h.get? b = some u -> h'.get? b = some u) (hp : h.objs.size <= a) (new : ObjOk P w (upd H a o) h' a o) : HOk P w (upd H a o) h' := λ b u e => by
  have hn := x.fresh hp
  by_cases hb : b = a
  . subst hb; rw [upd_same] at e; cases e; exact new
  . rw [upd_ne hb] at e
    exact (x b u e).stay (λ c v _ q => k c v q) (λ c q => by rw [upd_ne (ne_of_none q hn)]; exact q) λ c xs q => by rw [upd_ne (ne_of_none q hn)]; exact q
end
def Rd (H : Hp) (a : Addr) (u : HO) : Prop := H a = some u ∨ ∃ o, H a = some (.frz o u)
theorem Rd.ok {P : Program} {w : World} {H : Hp} {h : Heap} {a : Addr} {u : HO} (r : Rd H a u) (x : HOk P w H h) : ObjOk P w H h a u := by
  rcases r with r | ⟨o, r⟩
  . exact x a u r
  . obtain ⟨_, q⟩ := x a _ r
    exact q
def Mut : Option HO -> Prop
  | some (.lst _) => True
  | some (.dK _) => True
  | some (.dT _) => True
  | some (.set _ _) => True
  | some (.ins _ _ _) => True
  | some (.ext _) => True
  | _ => False
section
variable {P : Program} {w : World} {H : Hp} {h h' : Heap} {x e : Addr} {o' : HO}
theorem HOk.write (ok : HOk P w H h) (mu : Mut (H x)) (he : e = x ∨ H e = some (.own x)) (k : ∀ b u, b ≠ e -> h.get? b = some u -> h'.get? b = some u) (heo : ∃ u, h'.get? e = some u)
    (new : ObjOk P w (upd H x o') h' x o') : HOk P w (upd H x o') h' := λ b u q => by
  have nown : ∀ c y, H c = some (.own y) -> c ≠ x := λ c y r z => by subst z; rw [r] at mu; exact mu
  have ntup : ∀ c xs, H c = some (.tup xs) -> c ≠ x := λ c xs r z => by subst z; rw [r] at mu; exact mu
  by_cases hb : b = x
  . subst hb; rw [upd_same] at q; cases q; exact new
  . rw [upd_ne hb] at q
    by_cases hbe : b = e
    . have q' : H b = some (.own x) := by
        rcases he with z | z
        . exact absurd (hbe.trans z) hb
        . rw [hbe]; exact z
      rw [q] at q'; cases q'
      obtain ⟨v, hv⟩ := heo
      exact ⟨v, by rw [hbe]; exact hv⟩
    . refine (ok b u q).stay (λ c v hc r => k c v ?_ r) (λ c r => by rw [upd_ne (nown c b r)]; exact r) λ c xs r => by rw [upd_ne (ntup c xs r)]; exact r
      rcases hc with rfl | hc
      . exact hbe
      . rintro rfl
        rcases he with z | z
        . exact nown c b hc z
        . rw [hc] at z; cases z; exact hb rfl
end
structure Un (fs ex : List Addr) (H H' : Hp) (h h' : Heap) : Prop where
  keep : ∀ b o, h.get? b = some o -> H b = none -> b ∉ fs -> b ∉ ex -> h'.get? b = some o
  slot : ∀ b o, h.get? b = some o -> H b = none -> b ∈ fs -> b ∉ ex -> ∃ sl, h'.get? b = some { o with slots := sl }
  free : ∀ b o, h.get? b = some o -> H b = none -> b ∉ ex -> H' b = none
  there : ∀ b o, h.get? b = some o -> b ∉ ex -> ∃ o', h'.get? b = some o'
  tups : ∀ b xs, H b = some (.tup xs) -> H' b = some (.tup xs)
  frzs : ∀ b o u, H b = some (.frz o u) -> H' b = some (.frz o u)
  tbls : ∀ b ps, H b = some (.tbl ps) -> ∃ more, H' b = some (.tbl (ps ++ more))
section
variable {fs fs' ex ex' : List Addr} {H H1 H2 : Hp} {h h1 h2 h' : Heap} {a x e : Addr} {o : HO}
theorem Un.any (u : Un fs ex H H1 h h1) {b : Addr} {ob : Obj} (q : h.get? b = some ob) (n : H b = none) (hx : b ∉ ex) : ∃ sl, h1.get? b = some { ob with slots := sl } := by
  by_cases hb : b ∈ fs
  . exact u.slot b ob q n hb hx
  . exact ⟨ob.slots, u.keep b ob q n hb hx⟩
theorem Un.trans (a : Un fs ex H H1 h h1) (b : Un fs ex H1 H2 h1 h2) : Un fs ex H H2 h h2 where
  keep := λ c ob q n hc hx => b.keep c ob (a.keep c ob q n hc hx) (a.free c ob q n hx) hc hx
  slot := λ c ob q n hc hx => by
    obtain ⟨sl, e1⟩ := a.slot c ob q n hc hx
    obtain ⟨sl', e2⟩ := b.slot c _ e1 (a.free c ob q n hx) hc hx
    exact ⟨sl', e2⟩
  free := λ c ob q n hx => by
    obtain ⟨o', e1⟩ := a.there c ob q hx
    exact b.free c o' e1 (a.free c ob q n hx) hx
  there := λ c ob q hx => by
    obtain ⟨o', e1⟩ := a.there c ob q hx
    exact b.there c o' e1 hx
  tups := λ c xs q => b.tups c xs (a.tups c xs q)
  frzs := λ c ob xs q => b.frzs c ob xs (a.frzs c ob xs q)
  tbls := λ c ps q => by
    obtain ⟨m1, e1⟩ := a.tbls c ps q
    obtain ⟨m2, e2⟩ := b.tbls c _ e1
    exact ⟨m1 ++ m2, by rw [e2, Array.append_assoc]⟩
theorem Un.kept (k : ∀ b u, h.get? b = some u -> h'.get? b = some u) : Un fs ex H H h h' :=
  ⟨λ b ob q _ _ _ => k b ob q, λ b ob q _ _ _ => ⟨ob.slots, k b ob q⟩, λ _ _ _ n _ => n, λ b ob q _ => ⟨ob, k b ob q⟩, λ _ _ q => q, λ _ _ _ q => q, λ _ ps q => ⟨#[], by rw [q]; simp⟩⟩
theorem Un.refl : Un fs ex H H h h := Un.kept λ _ _ q => q
theorem Un.laid (k : ∀ b u, h.get? b = some u -> h'.get? b = some u) (hp : h.objs.size <= a) (hn : H a = none) : Un fs ex H (upd H a o) h h' where
  keep := λ b u q _ _ _ => k b u q
  slot := λ b u q _ _ _ => ⟨u.slots, k b u q⟩
  free := λ b u q n _ => by rw [upd_ne (Nat.ne_of_lt (Nat.lt_of_lt_of_le (Heap.lt_size q) hp))]; exact n
  there := λ b u q _ => ⟨u, k b u q⟩
  tups := λ b xs q => by rw [upd_ne (ne_of_none q hn)]; exact q
  frzs := λ b u xs q => by rw [upd_ne (ne_of_none q hn)]; exact q
  tbls := λ b ps q => ⟨#[], by rw [upd_ne (ne_of_none q hn), q]; simp⟩
theorem Un.write (mu : Mut (H x)) (he : e = x ∨ H e = some (.own x)) (k : ∀ b u, b ≠ e -> h.get? b = some u -> h'.get? b = some u) (heo : ∃ u, h'.get? e = some u) : Un fs ex H (upd H x o) h h' := by
  have hx : ∀ b, H b = none -> b ≠ x := λ b n z => by subst z; rw [n] at mu; exact mu
  have hb : ∀ b, H b = none -> b ≠ e := λ b n z => by
    subst z
    rcases he with r | r
    . exact hx b n r
    . rw [n] at r; cases r
  have hm : ∀ b u, H b = some u -> ¬ Mut (some u) -> b ≠ x := λ b u q nm z => by subst z; rw [q] at mu; exact nm mu
  refine ⟨λ b u q n _ _ => k b u (hb b n) q, λ b u q n _ _ => ⟨u.slots, k b u (hb b n) q⟩, λ b u q n _ => by rw [upd_ne (hx b n)]; exact n, λ b u q _ => ?_,
    λ b xs q => by rw [upd_ne (hm b _ q λ z => z)]; exact q, λ b u xs q => by rw [upd_ne (hm b _ q λ z => z)]; exact q, λ b ps q => ⟨#[], by rw [upd_ne (hm b _ q λ z => z), q]; simp⟩⟩
  by_cases hbe : b = e
  . subst hbe; exact heo
  . exact ⟨u, k b u hbe q⟩
theorem Un.mono (u : Un fs ex H H1 h h1) (hs : ∀ b ∈ fs, b ∈ fs') (hx : ∀ b ∈ ex, b ∈ ex') : Un fs' ex' H H1 h h1 :=
  ⟨λ b ob q n hb he => u.keep b ob q n (λ z => hb (hs b z)) λ z => he (hx b z), λ _ _ q n _ he => u.any q n λ z => he (hx _ z), λ b ob q n he => u.free b ob q n λ z => he (hx b z), λ b ob q he => u.there b ob q λ z => he (hx b z), u.tups, u.frzs, u.tbls⟩
end
def trk (h : Heap) (H : Hp) : List Addr := (List.range h.objs.size).filter λ a => (H a).isSome
def hidT (h : Heap) (H : Hp) : Heap := PySem.W.hideAll h (trk h H)
theorem hidT_size (h : Heap) (H : Hp) : (hidT h H).objs.size = h.objs.size := PySem.W.hideAll_size _ _
theorem hidT_get {h : Heap} {H : Hp} {b : Addr} {o : Obj} (e : h.get? b = some o) (n : H b = none) : (hidT h H).get? b = some o :=
  PySem.W.hideAll_get _ e λ hm => by
    have q : (H b).isSome = true := (List.mem_filter.mp hm).2
    rw [n] at q; simp at q
theorem of_hidT {h : Heap} {H : Hp} {b : Addr} {o : Obj} (e : (hidT h H).get? b = some o) : h.get? b = some o /\ H b = none := by
  have e' : h.get? b = some o := PySem.W.of_hideAll (trk h H) e
  refine ⟨e', ?_⟩
  cases q : H b with
  | none => rfl
  | some x =>
    have hm : b ∈ trk h H := List.mem_filter.mpr ⟨List.mem_range.mpr (Heap.lt_size e'), by simp [q]⟩
    have z : (hidT h H).get? b = none := PySem.W.hideAll_none (trk h H) hm
    rw [z] at e; cases e
def allNews (g h : Heap) (L : Addr) : List (Addr × Obj) := (List.range h.objs.size).filterMap λ a => if a = L ∨ (g.get? a).isSome = true then none else (h.get? a).map λ o => (a, o)
def rest (g h : Heap) (L d : Addr) : List (Addr × Obj) := (allNews g h L).filter λ p => decide (p.1 ≠ d)
end L2
namespace L2
open PySem PySem.Spec PyProof.Rows
structure Mod (K : PySem.W.Frag) (mg : Str -> Option Value) (base : Heap) : Prop where
  kin : K.In base
  glob : base.Ns mainGlobals mg
  blt : ∃ mb, base.Ns builtinsNs mb /\ ∀ x : Str, x ≠ "__name__" -> mb x = bootBuiltins x
  nolimit : base.NoLimit
structure Cx where
  prog : Program
  w : World
  K : PySem.W.Frag
  mg : Str -> Option Value
  base : Heap
  A : Around
  N : List Str
  s₀ : Shared
  H₀ : Hp
  env : Env
  outer : List Env
  stack : List Env
  ex : List Addr
  fn : Str -> Bool
  calm : Bool
  pn : List (Addr × Obj)
  xe : Value -> Shared -> Prop
def frs (l : List Env) : List Addr := l.filterMap (·.frame)
abbrev Cx.fs (X : Cx) : List Addr := frs X.outer
def Vis (sc : Scope) (x : Str) : Prop := sc.names.lookup x = some .local ∨ sc.names.lookup x = some .cell ∨ sc.names.lookup x = some .free
def Loc (sc : Scope) (x : Str) : Prop := sc.names.lookup x = some .local ∨ sc.names.lookup x = some .cell
def Look (env : Env) (h : Heap) (m : Str -> Option Value) (x : Str) (u : Value) : Prop :=
  (env.kindOf x = some .local /\ m x = some u) ∨ ((env.kindOf x = some .cell ∨ env.kindOf x = some .free) /\ ∃ c, env.cells.lookup x = some c /\ h.IsCell c (some u))
structure Cx.Ok (X : Cx) : Prop where
  mod : Mod X.K X.mg X.base
  kind : X.env.scope.kind = .function
  glob : X.env.globals = mainGlobals
  blt : X.env.builtins = builtinsNs
  above : X.s₀.heap.objs.size <= X.env.locals
  inj : ∀ x y c, X.env.cells.lookup x = some c -> X.env.cells.lookup y = some c -> x = y
  has : ∀ x, (X.env.kindOf x = some .cell ∨ X.env.kindOf x = some .free) -> ∃ c, X.env.cells.lookup x = some c
  cab : ∀ x c, X.fn x = true -> X.env.cells.lookup x = some c -> X.s₀.heap.objs.size <= c
  hd : X.calm = true -> X.A.handled = none
  frames : X.A.frames = some X.stack
  stk : X.stack = X.outer ∨ (X.stack = X.env :: X.outer /\ X.env.frame = some X.env.locals)
  exf : ∀ b ∈ X.ex, b ≠ X.env.locals /\ ∀ x c, X.env.cells.lookup x = some c -> c ≠ b
  bs : ∀ b o, X.base.get? b = some o -> X.s₀.heap.get? b = some o /\ X.H₀ b = none
  bsz : X.base.objs.size <= X.s₀.heap.objs.size
  noex : ∀ b o, X.base.get? b = some o -> b ∉ X.ex
  exfs : ∀ b ∈ X.ex, b ∉ X.fs
  funs : X.s₀.heap.FunFrames X.base X.outer
  frf : ∀ b ∈ X.fs, X.H₀ b = none
structure Inv (X : Cx) (pins : List (Addr × Obj)) (σ : List (Option V)) (H : Hp) (s : Shared) : Prop where
  ok : X.Ok
  os : s.os = X.s₀.os
  bare : AllBare s.gens
  base : Un X.fs X.ex X.H₀ H X.s₀.heap s.heap
  loc : ∃ m, s.heap.Ns X.env.locals m /\ ∀ (i : Nat) (x : Str) (v : V), X.N[i]? = some x -> σ[i]? = some (some v) -> Vis X.env.scope x -> ∃ u, RelV v u /\ Look X.env s.heap m x u
  cell : ∀ x c, X.env.cells.lookup x = some c -> ∃ v, s.heap.IsCell c v
  free : H X.env.locals = none
  freeC : ∀ x c, X.env.cells.lookup x = some c -> H c = none
  pin : ∀ p ∈ X.pn ++ pins, s.heap.get? p.1 = some p.2 /\ H p.1 = none /\ p.1 ≠ X.env.locals /\ p.1 ∉ X.fs /\ ∀ v, p.2.data ≠ .cell v
  hok : HOk X.prog X.w H s.heap
  len : σ.length = X.N.length
section
variable {X : Cx} {pins : List (Addr × Obj)} {σ : List (Option V)} {H H' : Hp} {s : Shared} {h' : Heap}
theorem Cx.Ok.nofr (ok : X.Ok) {b : Addr} {o : Obj} (e : X.base.get? b = some o) : b ∉ X.fs := λ hb => by
  have := (ok.funs.mem hb).1
  rw [e] at this; cases this
theorem Inv.bs (I : Inv X pins σ H s) : ∀ b o, X.base.get? b = some o -> s.heap.get? b = some o /\ H b = none := λ b o e =>
  ⟨I.base.keep b o (I.ok.bs b o e).1 (I.ok.bs b o e).2 (I.ok.nofr e) (I.ok.noex b o e), I.base.free b o (I.ok.bs b o e).1 (I.ok.bs b o e).2 (I.ok.noex b o e)⟩
theorem Inv.bk (I : Inv X pins σ H s) : ∀ b o, X.base.get? b = some o -> s.heap.get? b = some o := λ b o e => (I.bs b o e).1
theorem Inv.mod (I : Inv X pins σ H s) : Mod X.K X.mg X.base := I.ok.mod
theorem Inv.kIn (I : Inv X pins σ H s) : X.K.In s.heap := I.ok.mod.kin.keeps I.bk
theorem Inv.nolimit (I : Inv X pins σ H s) : s.heap.NoLimit := I.ok.mod.nolimit.keeps I.bk
theorem Inv.fr (I : Inv X pins σ H s) : ∃ m, Fr X.base X.env.locals s.heap m :=
  let ⟨m, hn, _⟩ := I.loc
  ⟨m, hn, I.bk, Nat.le_trans I.ok.bsz I.ok.above⟩
theorem Inv.lt (I : Inv X pins σ H s) : X.env.locals < s.heap.objs.size := let ⟨_, hn, _⟩ := I.loc; hn.lt
theorem Inv.sz (I : Inv X pins σ H s) : X.s₀.heap.objs.size <= s.heap.objs.size := Nat.le_trans I.ok.above (Nat.le_of_lt I.lt)
theorem Inv.nofs (I : Inv X pins σ H s) {a : Addr} (h : s.heap.objs.size <= a) : a ∉ X.fs := λ hb => by
  obtain ⟨_, o, ho, _⟩ := I.ok.funs.mem hb
  exact absurd (Nat.lt_of_lt_of_le (Heap.lt_size ho) (Nat.le_trans I.sz h)) (Nat.lt_irrefl _)
theorem Inv.cne (I : Inv X pins σ H s) : ∀ x c, X.env.cells.lookup x = some c -> c ≠ X.env.locals := λ x c e z => by
  obtain ⟨v, o, ho, hd⟩ := I.cell x c e
  obtain ⟨m, ⟨o', es, ep, ho', hd', _⟩, _⟩ := I.loc
  rw [z, ho'] at ho; cases ho; rw [hd'] at hd; cases hd
theorem Inv.funs (I : Inv X pins σ H s) : s.heap.FunFrames X.base X.outer := by
  have all : ∀ (l : List Env), (∀ b ∈ frs l, b ∈ X.fs) -> X.s₀.heap.FunFrames X.base l -> s.heap.FunFrames X.base l := by
    intro l
    induction l with
    | nil => intro _ _; trivial
    | cons env r ih =>
      intro hs hl
      obtain ⟨hk, ⟨L, o, hf, hn, ho, hd⟩, hr⟩ := hl
      have hL : L ∈ X.fs := hs L (by unfold frs; rw [List.filterMap_cons, hf]; exact List.mem_cons_self)
      obtain ⟨sl, e⟩ := I.base.slot L o ho (I.ok.frf L hL) hL λ z => I.ok.exfs L z hL
      exact ⟨hk, ⟨L, _, hf, hn, e, hd⟩, ih (λ b hb => hs b (by unfold frs; rw [List.filterMap_cons, hf]; exact List.mem_cons_of_mem _ hb)) hr⟩
  exact all X.outer (λ _ hb => hb) I.ok.funs
theorem Inv.stack (I : Inv X pins σ H s) : s.heap.FunFrames X.base X.stack := by
  rcases I.ok.stk with e | ⟨e, hf⟩
  . rw [e]; exact I.funs
  . rw [e]
    obtain ⟨m, hn, _⟩ := I.loc
    refine .cons (by rw [I.ok.kind]; decide) hf hn ?_ I.funs
    exact Heap.get?_none_of_le (Nat.le_trans I.ok.bsz I.ok.above)
theorem Inv.stkSub (I : Inv X pins σ H s) : ∀ b ∈ frs X.stack, b ∈ X.env.locals :: X.fs := λ b hb => by
  rcases I.ok.stk with e | ⟨e, hf⟩
  . rw [e] at hb; exact List.mem_cons_of_mem _ hb
  . rw [e] at hb
    unfold frs at hb
    rw [List.filterMap_cons, hf] at hb
    exact hb
theorem Inv.stkFree (I : Inv X pins σ H s) : ∀ b ∈ frs X.stack, H b = none := λ b hb => by
  rcases List.mem_cons.mp (I.stkSub b hb) with e | hb
  . rw [e]; exact I.free
  . obtain ⟨_, o, ho, _⟩ := I.ok.funs.mem hb
    exact I.base.free b o ho (I.ok.frf b hb) λ z => I.ok.exfs b z hb
theorem Inv.step {g' : Array GenState} {t' : Nat} {d' : Drawn} {ch : List Addr} (I : Inv X pins σ H s)
    (hch : ∀ b ∈ ch, (b ∈ X.ex ∨ X.s₀.heap.objs.size <= b) /\ b ≠ X.env.locals /\ (∀ x c, X.env.cells.lookup x = some c -> c ≠ b) /\ ∀ p ∈ X.pn ++ pins, p.1 ≠ b)
    (keep : ∀ b o, b ≠ X.env.locals -> b ∉ X.fs -> b ∉ ch -> s.heap.get? b = some o -> H b = none -> h'.get? b = some o)
    (slot : ∀ b o, b ≠ X.env.locals -> b ∈ X.fs -> b ∉ ch -> s.heap.get? b = some o -> H b = none -> ∃ sl, h'.get? b = some { o with slots := sl }) (free : ∀ b o, b ∉ ch -> s.heap.get? b = some o -> H b = none -> H' b = none)
    (there : ∀ b o, b ∉ ch -> s.heap.get? b = some o -> ∃ o', h'.get? b = some o')
    (tups : ∀ b xs, H b = some (.tup xs) -> H' b = some (.tup xs)) (frzs : ∀ b o u, H b = some (.frz o u) -> H' b = some (.frz o u)) (tbls : ∀ b ps, H b = some (.tbl ps) -> ∃ more, H' b = some (.tbl (ps ++ more)))
    (ns : ∀ m, s.heap.Ns X.env.locals m -> h'.Ns X.env.locals m) (hok : HOk X.prog X.w H' h') (hg : AllBare g') :
    Inv X pins σ H' { s with heap := h', gens := g', drawn := d', toks := t' } := by
  have neL : ∀ b o, X.s₀.heap.get? b = some o -> b ≠ X.env.locals := λ b o e => Nat.ne_of_lt (Nat.lt_of_lt_of_le (Heap.lt_size e) I.ok.above)
  have neC : ∀ b o, X.s₀.heap.get? b = some o -> b ∉ X.ex -> b ∉ ch := λ b o e hx hb => by
    rcases (hch b hb).1 with z | z
    . exact hx z
    . exact absurd (Nat.lt_of_lt_of_le (Heap.lt_size e) z) (Nat.lt_irrefl _)
  have cellK : ∀ x c, X.env.cells.lookup x = some c -> ∀ v, s.heap.IsCell c v -> h'.IsCell c v := λ x c e v ⟨o, ho, hd⟩ => by
    have nch : c ∉ ch := λ z => (hch c z).2.2.1 x c e rfl
    by_cases hc : c ∈ X.fs
    . obtain ⟨sl, q⟩ := slot c o (I.cne x c e) hc nch ho (I.freeC x c e)
      exact ⟨_, q, hd⟩
    . exact ⟨o, keep c o (I.cne x c e) hc nch ho (I.freeC x c e), hd⟩
  refine ⟨I.ok, I.os, hg, ⟨λ b o e n hb hx => ?_, λ b o e n hb hx => ?_, λ b o e n hx => ?_, λ b o e hx => ?_, λ b xs e => tups b xs (I.base.tups b xs e), λ b o xs e => frzs b o xs (I.base.frzs b o xs e), λ b ps e => ?_⟩, ?_, λ x c e => ?_, ?_, λ x c e => ?_, λ p hp => ?_, hok, I.len⟩
  . exact keep b o (neL b o e) hb (neC b o e hx) (I.base.keep b o e n hb hx) (I.base.free b o e n hx)
  . obtain ⟨sl, e1⟩ := I.base.slot b o e n hb hx
    obtain ⟨sl', e2⟩ := slot b _ (neL b o e) hb (neC b o e hx) e1 (I.base.free b o e n hx)
    exact ⟨sl', e2⟩
  . obtain ⟨o', e1⟩ := I.base.there b o e hx
    exact free b o' (neC b o e hx) e1 (I.base.free b o e n hx)
  . obtain ⟨o', e1⟩ := I.base.there b o e hx
    exact there b o' (neC b o e hx) e1
  . obtain ⟨m1, e1⟩ := I.base.tbls b ps e
    obtain ⟨m2, e2⟩ := tbls b _ e1
    exact ⟨m1 ++ m2, by rw [e2, Array.append_assoc]⟩
  . obtain ⟨m, hn, hl⟩ := I.loc
    refine ⟨m, ns m hn, λ i x v e1 e2 e3 => ?_⟩
    obtain ⟨u, r, l⟩ := hl i x v e1 e2 e3
    refine ⟨u, r, ?_⟩
    rcases l with l | ⟨k, c, e, z⟩
    . exact .inl l
    . exact .inr ⟨k, c, e, cellK x c e _ z⟩
  . obtain ⟨v, z⟩ := I.cell x c e
    exact ⟨v, cellK x c e v z⟩
  . obtain ⟨m, ⟨o, _, _, ho, _⟩, _⟩ := I.loc
    exact free _ o (λ z => (hch _ z).2.1 rfl) ho I.free
  . obtain ⟨v, o, ho, hd⟩ := I.cell x c e
    exact free c o (λ z => (hch c z).2.2.1 x c e rfl) ho (I.freeC x c e)
  . obtain ⟨e, n, ne, nf, d⟩ := I.pin p hp
    have nch : p.1 ∉ ch := λ z => (hch p.1 z).2.2.2 p hp rfl
    exact ⟨keep p.1 p.2 ne nf nch e n, free p.1 p.2 nch e n, ne, nf, d⟩
theorem Inv.un {t' : Nat} (I : Inv X pins σ H s) (u : Un X.fs [] H H' s.heap h') (hok : HOk X.prog X.w H' h') : Inv X pins σ H' { s with heap := h', toks := t' } := by
  obtain ⟨m, ⟨o, es, ep, ho, r⟩, _⟩ := id I.loc
  obtain ⟨sl, hL⟩ := u.any ho I.free (by simp)
  exact I.step (g' := s.gens) (d' := s.drawn) (ch := []) (λ _ z => nomatch z) (λ b o _ hb _ e n => u.keep b o e n hb (by simp)) (λ b o _ hb _ e n => u.slot b o e n hb (by simp)) (λ b o _ e n => u.free b o e n (by simp)) (λ b o _ e => u.there b o e (by simp)) u.tups u.frzs u.tbls (λ m' hm => by
    obtain ⟨o', es', ep', ho', r'⟩ := hm
    rw [ho] at ho'; cases ho'
    exact ⟨_, es', ep', hL, r'⟩) hok I.bare
theorem Inv.call {g' : Array GenState} {t' : Nat} {d' : Drawn} {ch : List Addr} (I : Inv X pins σ H s) (u : Un (frs X.stack) ch H H' s.heap h') (hok : HOk X.prog X.w H' h') (hg : AllBare g')
    (hch : ∀ b ∈ ch, (b ∈ X.ex ∨ X.s₀.heap.objs.size <= b) /\ b ≠ X.env.locals /\ (∀ x c, X.env.cells.lookup x = some c -> c ≠ b) /\ ∀ p ∈ X.pn ++ pins, p.1 ≠ b) :
    Inv X pins σ H' { s with heap := h', gens := g', drawn := d', toks := t' } := by
  obtain ⟨m, ⟨o, es, ep, ho, r⟩, _⟩ := id I.loc
  obtain ⟨sl, hL⟩ := u.any ho I.free λ z => (hch _ z).2.1 rfl
  exact I.step (ch := ch) hch (λ b o hL hb hc e n => u.keep b o e n (λ z => (List.mem_cons.mp (I.stkSub b z)).elim hL hb) hc) (λ b o _ _ hc e n => u.any e n hc) (λ b o hc e n => u.free b o e n hc) (λ b o hc e => u.there b o e hc) u.tups u.frzs u.tbls (λ m' hm => by
    obtain ⟨o', es', ep', ho', r'⟩ := hm
    rw [ho] at ho'; cases ho'
    exact ⟨_, es', ep', hL, r'⟩) hok hg
theorem Inv.turned {t' : Nat} {it : Addr} (I : Inv X pins σ H s) (k : ∀ b o, b ≠ it -> s.heap.get? b = some o -> h'.get? b = some o) (hn : H it = none) (hL : it ≠ X.env.locals)
    (h1 : it ∈ X.ex ∨ X.s₀.heap.objs.size <= it) (h2 : ∀ x c, X.env.cells.lookup x = some c -> c ≠ it) (h3 : ∀ p ∈ X.pn ++ pins, p.1 ≠ it) : Inv X pins σ H { s with heap := h', toks := t' } := by
  have nit : ∀ b u, H b = some u -> b ≠ it := λ b u e z => by rw [z, hn] at e; cases e
  refine I.step (g' := s.gens) (d' := s.drawn) (ch := [it]) (λ b hb => ?_) (λ b o _ _ hc e _ => k b o (λ z => hc (by simp [z])) e) (λ b o _ _ hc e _ => ⟨o.slots, k b o (λ z => hc (by simp [z])) e⟩) (λ _ _ _ _ n => n)
    (λ b o hc e => ⟨o, k b o (λ z => hc (by simp [z])) e⟩) (λ _ _ e => e) (λ _ _ _ e => e) (λ b ps e => ⟨#[], by rw [e]; simp⟩) (λ m hm => ?_) (λ b u e => ?_) I.bare
  . have e : b = it := by simpa using hb
    subst e
    exact ⟨h1, hL, h2, h3⟩
  . obtain ⟨o, es, ep, ho, r⟩ := hm
    exact ⟨o, es, ep, k _ o (Ne.symm hL) ho, r⟩
  . refine (I.hok b u e).stay (λ c v hc q => k c v ?_ q) (λ _ q => q) λ _ _ q => q
    rcases hc with z | z
    . rw [z]; exact nit b u e
    . exact nit c _ z
theorem Inv.tok (I : Inv X pins σ H s) (t : Nat) : Inv X pins σ H { s with toks := t } := I.un (h' := s.heap) (t' := t) Un.refl I.hok
theorem Inv.kept {t' : Nat} (I : Inv X pins σ H s) (k : ∀ b u, s.heap.get? b = some u -> h'.get? b = some u) : Inv X pins σ H { s with heap := h', toks := t' } := I.un (Un.kept k) (I.hok.kept k)
theorem Inv.laid {a : Addr} {o : HO} {t' : Nat} (I : Inv X pins σ H s) (k : ∀ b u, s.heap.get? b = some u -> h'.get? b = some u) (hp : s.heap.objs.size <= a) (new : ObjOk X.prog X.w (upd H a o) h' a o) :
    Inv X pins σ (upd H a o) { s with heap := h', toks := t' } := I.un (Un.laid k hp (I.hok.fresh hp)) (I.hok.laid k hp new)
theorem Inv.write {x e : Addr} {o : HO} {t' : Nat} (I : Inv X pins σ H s) (mu : Mut (H x)) (he : e = x ∨ H e = some (.own x)) (k : ∀ b u, b ≠ e -> s.heap.get? b = some u -> h'.get? b = some u) (heo : ∃ u, h'.get? e = some u)
    (new : ObjOk X.prog X.w (upd H x o) h' x o) : Inv X pins σ (upd H x o) { s with heap := h', toks := t' } := I.un (Un.write mu he k heo) (I.hok.write mu he k heo new)
theorem Inv.pins_of {pins' : List (Addr × Obj)} (I : Inv X pins σ H s) (h : ∀ p ∈ pins', s.heap.get? p.1 = some p.2 /\ H p.1 = none /\ p.1 ≠ X.env.locals /\ p.1 ∉ X.fs /\ ∀ v, p.2.data ≠ .cell v) : Inv X pins' σ H s :=
  ⟨I.ok, I.os, I.bare, I.base, I.loc, I.cell, I.free, I.freeC, λ p hp => (List.mem_append.mp hp).elim (λ z => I.pin p (List.mem_append_left _ z)) (h p), I.hok, I.len⟩
theorem nodup_ix {N : List Str} (hN : N.Nodup) {i j : Nat} {x : Str} (a : N[i]? = some x) (b : N[j]? = some x) : i = j := by
  obtain ⟨h1, e1⟩ := List.getElem?_eq_some_iff.mp a
  obtain ⟨h2, e2⟩ := List.getElem?_eq_some_iff.mp b
  exact (List.getElem_inj hN).mp (e1.trans e2.symm)
theorem store_ok2 {M : Model} {A : Around} {E : Value -> Shared -> Prop} {i : Nat} {x : Str} {v : V} {u : Value} {Q : Unit -> Shared -> Prop} (I : Inv X pins σ H s) (hN : X.N.Nodup) (hi : X.N[i]? = some x) (hx : Loc X.env.scope x) (r : RelV v u)
    (h : ∀ s', Inv X pins (σ.set i (some v)) H s' -> (∃ a, Heap.SameBut a s.heap s'.heap /\ (a = X.env.locals ∨ X.env.cells.lookup x = some a)) -> Q () s') (hf : X.fn x = true ∨ X.env.scope.names.lookup x = some .local := by first | exact .inl rfl | exact .inr rfl | assumption) : wpAny M A (storeName X.env x u) Q E s := by
  obtain ⟨m, hn, hl⟩ := id I.loc
  have hcls : (X.env.scope.kind == .class || (X.env.scope.kind == .module && X.env.locals != X.env.globals)) = false := by rw [I.ok.kind]; rfl
  have hiσ : i < σ.length := by rw [I.len]; exact (List.getElem?_eq_some_iff.mp hi).1
  have cne := I.cne
  have tracked : ∀ {a : Addr} {h' : Heap}, (∃ o, s.heap.get? a = some o /\ H a = none) -> Heap.SameBut a s.heap h' -> HOk X.prog X.w H h' := λ {a h'} ha hs b ob e => by
    obtain ⟨_, _, hfree⟩ := ha
    refine (I.hok b ob e).stay (λ c w' hc q => (hs.2 c ?_).trans q) (λ _ q => q) λ _ _ q => q
    rintro rfl
    rcases hc with rfl | hc
    . rw [hfree] at e; cases e
    . rw [hfree] at hc; cases hc
  rcases hx with hk | hk
  . refine wpAny_storeName_local hk hn (λ h' hn' hs => ?_) hcls
    obtain ⟨oL, _, _, hoL, _⟩ := id hn
    refine h _ ⟨I.ok, I.os, I.bare, ⟨λ b o e n hb hx => ?_, λ b o e n hb hx => ?_, I.base.free, λ b o e hx => ?_, I.base.tups, I.base.frzs, I.base.tbls⟩, ⟨_, hn', λ j y v' e1 e2 e3 => ?_⟩, λ y c e => ?_, I.free, I.freeC, λ p hp => ?_, tracked ⟨oL, hoL, I.free⟩ hs, by simpa using I.len⟩ ⟨_, hs, .inl rfl⟩
    . exact (hs.2 b (Nat.ne_of_lt (Nat.lt_of_lt_of_le (Heap.lt_size e) I.ok.above))).trans (I.base.keep b o e n hb hx)
    . obtain ⟨sl, e1⟩ := I.base.slot b o e n hb hx
      exact ⟨sl, (hs.2 b (Nat.ne_of_lt (Nat.lt_of_lt_of_le (Heap.lt_size e) I.ok.above))).trans e1⟩
    . obtain ⟨o', e1⟩ := I.base.there b o e hx
      exact ⟨o', (hs.2 b (Nat.ne_of_lt (Nat.lt_of_lt_of_le (Heap.lt_size e) I.ok.above))).trans e1⟩
    . by_cases hj : j = i
      . subst hj
        rw [hi] at e1; cases e1
        rw [List.getElem?_set_self hiσ] at e2
        cases e2
        exact ⟨u, r, .inl ⟨hk, by simp⟩⟩
      . rw [List.getElem?_set_ne (Ne.symm hj)] at e2
        obtain ⟨u', r', q⟩ := hl j y v' e1 e2 e3
        refine ⟨u', r', ?_⟩
        rcases q with ⟨k, e⟩ | ⟨k, c, e, z⟩
        . refine .inl ⟨k, ?_⟩
          have : y ≠ x := λ e => hj (nodup_ix hN e1 (e ▸ hi))
          simp [this, e]
        . exact .inr ⟨k, c, e, z.sameBut hs (cne y c e)⟩
    . obtain ⟨w', z⟩ := I.cell y c e
      exact ⟨w', z.sameBut hs (cne y c e)⟩
    . obtain ⟨e, n, ne, nf, d⟩ := I.pin p hp
      exact ⟨(hs.2 p.1 ne).trans e, n, ne, nf, d⟩
  . have hfn : X.fn x = true := by
      rcases hf with z | z
      . exact z
      . rw [z] at hk; cases hk
    obtain ⟨c, hc⟩ := I.ok.has x (.inl hk)
    obtain ⟨w', z⟩ := I.cell x c hc
    refine wpAny_storeName_cell I.ok.kind hk hc z (λ h' hc' hs => ?_)
    obtain ⟨oc, hoc, hocd⟩ := id z
    refine h { s with heap := h' } ⟨I.ok, I.os, I.bare, ⟨λ b o e n hb hx => ?_, λ b o e n hb hx => ?_, I.base.free, λ b o e hx => ?_, I.base.tups, I.base.frzs, I.base.tbls⟩, ⟨m, hn.sameBut hs (Ne.symm (cne x c hc)), λ j y v' e1 e2 e3 => ?_⟩, λ y c' e => ?_, I.free, I.freeC, λ p hp => ?_, tracked ⟨oc, hoc, I.freeC x c hc⟩ hs, by simpa using I.len⟩ ⟨c, hs, .inr hc⟩
    . exact (hs.2 b (Nat.ne_of_lt (Nat.lt_of_lt_of_le (Heap.lt_size e) (I.ok.cab x c hfn hc)))).trans (I.base.keep b o e n hb hx)
    . obtain ⟨sl, e1⟩ := I.base.slot b o e n hb hx
      exact ⟨sl, (hs.2 b (Nat.ne_of_lt (Nat.lt_of_lt_of_le (Heap.lt_size e) (I.ok.cab x c hfn hc)))).trans e1⟩
    . obtain ⟨o', e1⟩ := I.base.there b o e hx
      exact ⟨o', (hs.2 b (Nat.ne_of_lt (Nat.lt_of_lt_of_le (Heap.lt_size e) (I.ok.cab x c hfn hc)))).trans e1⟩
    . by_cases hj : j = i
      . subst hj
        rw [hi] at e1; cases e1
        rw [List.getElem?_set_self hiσ] at e2
        cases e2
        exact ⟨u, r, .inr ⟨.inl hk, c, hc, hc'⟩⟩
      . rw [List.getElem?_set_ne (Ne.symm hj)] at e2
        obtain ⟨u', r', q⟩ := hl j y v' e1 e2 e3
        refine ⟨u', r', ?_⟩
        rcases q with q | ⟨k, c', e, z'⟩
        . exact .inl q
        . refine .inr ⟨k, c', e, z'.sameBut hs ?_⟩
          rintro rfl
          exact hj (nodup_ix hN e1 (I.ok.inj _ _ _ e hc ▸ hi))
    . by_cases hcc : c' = c
      . subst hcc; exact ⟨_, hc'⟩
      . obtain ⟨w2, z2⟩ := I.cell y c' e
        exact ⟨w2, z2.sameBut hs hcc⟩
    . obtain ⟨e, n, ne, nf, d⟩ := I.pin p hp
      refine ⟨(hs.2 p.1 ?_).trans e, n, ne, nf, d⟩
      intro q
      rw [q, hoc] at e
      have q' : oc = p.2 := Option.some.inj e
      exact d w' (by rw [<- q']; exact hocd)
theorem store_ok {M : Model} {A : Around} {E : Value -> Shared -> Prop} {i : Nat} {x : Str} {v : V} {u : Value} {Q : Unit -> Shared -> Prop} (I : Inv X pins σ H s) (hN : X.N.Nodup) (hi : X.N[i]? = some x) (hx : Loc X.env.scope x) (r : RelV v u)
    (h : ∀ s', Inv X pins (σ.set i (some v)) H s' -> Q () s') (hf : X.fn x = true ∨ X.env.scope.names.lookup x = some .local := by first | exact .inl rfl | exact .inr rfl | assumption) : wpAny M A (storeName X.env x u) Q E s :=
  store_ok2 I hN hi hx r (λ s' I' _ => h s' I') hf
theorem Inv.call' {s' : Shared} {ch : List Addr} (I : Inv X pins σ H s) (ho : s'.os = s.os) (u : Un (frs X.stack) ch H H' s.heap s'.heap) (hok : HOk X.prog X.w H' s'.heap) (hg : AllBare s'.gens)
    (hch : ∀ b ∈ ch, (b ∈ X.ex ∨ X.s₀.heap.objs.size <= b) /\ b ≠ X.env.locals /\ (∀ x c, X.env.cells.lookup x = some c -> c ≠ b) /\ ∀ p ∈ X.pn ++ pins, p.1 ≠ b) : Inv X pins σ H' s' := by
  obtain ⟨h', g', d', t', o'⟩ := s'
  have e : o' = s.os := ho
  subst e
  exact I.call (g' := g') (t' := t') (d' := d') u hok hg hch
end
abbrev XK := Value -> Option Addr -> Hp -> Prop
abbrev St := List (Option V)
abbrev VK := V -> Hp -> Prop
abbrev TE := St -> Hp -> VK -> Prop
abbrev TT := St -> Hp -> (Bool -> Hp -> Prop) -> Prop
abbrev TA := St -> Hp -> (List V -> Hp -> Prop) -> Prop
structure Ends where
  nx : St -> Hp -> Prop
  rt : VK
  bk : St -> Hp -> Prop := λ _ _ => False
  ct : St -> Hp -> Prop := λ _ _ => False
abbrev TS := Ends -> St -> Hp -> Prop
def EP (X : Cx) (pins : List (Addr × Obj)) (σ : St) (Q : VK) (u : Value) (s' : Shared) : Prop := ∃ v H', Inv X pins σ H' s' /\ RelV v u /\ Q v H'
def TP (X : Cx) (pins : List (Addr × Obj)) (σ : St) (Q : Bool -> Hp -> Prop) (b : Bool) (s' : Shared) : Prop := ∃ H', Inv X pins σ H' s' /\ Q b H'
def AP (X : Cx) (pins : List (Addr × Obj)) (σ : St) (Q : List V -> Hp -> Prop) (us : List Value) (s' : Shared) : Prop := ∃ vs H', Inv X pins σ H' s' /\ Vals vs us /\ Q vs H'
def SP (X : Cx) (pins : List (Addr × Obj)) (D : Ends) (f : Flow) (s' : Shared) : Prop :=
  match f with
  | .next => ∃ σ' H', Inv X pins σ' H' s' /\ D.nx σ' H'
  | .brk => ∃ σ' H', Inv X pins σ' H' s' /\ D.bk σ' H'
  | .cont => ∃ σ' H', Inv X pins σ' H' s' /\ D.ct σ' H'
  | .ret u => ∃ v σ' H', Inv X pins σ' H' s' /\ RelV v u /\ D.rt v H'
def PE (X : Cx) (e : Expr) (t : TE) : Prop :=
  ∀ (pins : List (Addr × Obj)) (s : Shared) (σ : St) (H : Hp) (Q : VK), Inv X pins σ H s -> t σ H Q -> wpAny (model X.prog X.w) X.A (eval e X.env) (EP X pins σ Q) X.xe s
def PT (X : Cx) (e : Expr) (t : TT) : Prop :=
  ∀ (pins : List (Addr × Obj)) (s : Shared) (σ : St) (H : Hp) (Q : Bool -> Hp -> Prop), Inv X pins σ H s -> t σ H Q -> wpAny (model X.prog X.w) X.A (isTrue e X.env (eval e X.env)) (TP X pins σ Q) X.xe s
def PW (X : Cx) (e : Expr) (t : TT) : Prop :=
  ∀ (whole : Sem Value) (pins : List (Addr × Obj)) (s : Shared) (σ : St) (H : Hp) (Q : Bool -> Hp -> Prop), Inv X pins σ H s -> t σ H Q -> wpAny (model X.prog X.w) X.A (isTrue e X.env whole) (TP X pins σ Q) X.xe s
theorem PW.pt {X : Cx} {e : Expr} {t : TT} (h : PW X e t) : PT X e t := h _
def PA (X : Cx) (es : List Expr) (t : TA) : Prop :=
  ∀ (pos : Pos) (pins : List (Addr × Obj)) (s : Shared) (σ : St) (H : Hp) (Q : List V -> Hp -> Prop), Inv X pins σ H s -> t σ H Q -> wpAny (model X.prog X.w) X.A (spliced (backTo pos (starEach es X.env))) (AP X pins σ Q) X.xe s
def PS (X : Cx) (st : Stmt) (t : TS) : Prop :=
  ∀ (pins : List (Addr × Obj)) (s : Shared) (σ : St) (H : Hp) (D : Ends), Inv X pins σ H s -> t D σ H -> wpAny (model X.prog X.w) X.A (exec st X.env) (SP X pins D) X.xe s
def PSs (X : Cx) (st : List Stmt) (t : TS) : Prop :=
  ∀ (pins : List (Addr × Obj)) (s : Shared) (σ : St) (H : Hp) (D : Ends), Inv X pins σ H s -> t D σ H -> wpAny (model X.prog X.w) X.A (execs st X.env) (SP X pins D) X.xe s
theorem thn {α : Type} {t : Sem α} {Q Q' : α -> Shared -> Prop} {M : Model} {A : Around} {E : Value -> Shared -> Prop} {s : Shared} (h : wpAny M A t Q E s) (hQ : ∀ a s, Q a s -> Q' a s) : wpAny M A t Q' E s := wpAny_mono h hQ λ _ _ x => x
end L2
namespace L2
open PySem PySem.Spec PyProof.Rows
section
variable {X : Cx}
theorem bin {a b : Expr} {ta tb : TE} (ha : PE X a ta) (hb : PE X b tb) {pins : List (Addr × Obj)} {s : Shared} {σ : St} {H : Hp} {R : V -> V -> Hp -> Prop} (I : Inv X pins σ H s) (h : ta σ H λ x H1 => tb σ H1 λ y H2 => R x y H2)
    {α : Type} {Q : α -> Shared -> Prop} {f : Value -> Value -> Sem α}
    (hf : ∀ v u s2 x y H2, Inv X pins σ H2 s2 -> RelV x v -> RelV y u -> R x y H2 -> wpAny (model X.prog X.w) X.A (f v u) Q X.xe s2) :
    wpAny (model X.prog X.w) X.A (eval a X.env) (λ v s₁ => wpAny (model X.prog X.w) X.A (eval b X.env) (λ u s₂ => wpAny (model X.prog X.w) X.A (f v u) Q X.xe s₂) X.xe s₁) X.xe s := by
  refine thn (ha pins s σ H _ I h) λ v s1 ⟨x, H1, I1, r1, q1⟩ => ?_
  refine thn (hb pins s1 σ H1 _ I1 q1) λ u s2 ⟨y, H2, I2, r2, q2⟩ => ?_
  exact hf v u s2 x y H2 I2 r1 r2 q2
def tVar (i : Nat) : TE := λ σ H Q => ∃ v, σ[i]? = some (some v) /\ Q v H
def tC (v : V) : TE := λ _ H Q => Q v H
theorem pe_var {i : Nat} {x : Str} {pos : Pos} (hN : X.N[i]? = some x) (hv : Vis X.env.scope x) (hd : (x == ("__debug__" : Str)) = false := by decide) (hcd : (x == ("__classdict__" : Str)) = false := by decide) : PE X (.Name x pos) (tVar i) := by
  intro pins s σ H Q I h
  obtain ⟨v, e, h⟩ := h
  obtain ⟨m, hn, hl⟩ := I.loc
  obtain ⟨u, r, l⟩ := hl i x v hN e hv
  have fin : EP X pins σ Q u s := ⟨v, H, I, r, h⟩
  rcases l with ⟨hk, hm⟩ | ⟨hk, c, hc, hcell⟩
  . exact wpAny_Name (wpAny_loadName_local I.ok.kind hk hn hm fin) hd
  . rcases hk with hk | hk
    . exact wpAny_Name (wpAny_loadName_cell I.ok.kind hk hc hcell fin) hd
    . exact wpAny_Name (wpAny_loadName_free I.ok.kind hk hc hcell fin hcd) hd
theorem pe_int {i j pos} : PE X (.Constant (.int i) j pos) (tC (.int i)) := λ _ _ _ H _ I h => wpAny_Constant_int ⟨.int i, H, I.tok _, ⟨_, rfl⟩, h⟩
theorem pe_bl {b j pos} : PE X (.Constant (.bool b) j pos) (tC (.bl b)) := λ _ _ _ H _ I h => Constant_bool ⟨.bl b, H, I, rfl, h⟩
theorem pe_non {j pos} : PE X (.Constant .none j pos) (tC .non) := λ _ _ _ H _ I h => Constant_none ⟨.non, H, I, rfl, h⟩
theorem pe_str {x j pos} : PE X (.Constant (.str x) j pos) (tC (.str x)) := λ _ _ _ H _ I h => Calls.Constant_str ⟨.str x, H, I.tok _, ⟨_, rfl⟩, h⟩
def Gl (X : Cx) (x : Str) : Prop := X.env.kindOf x = some .globalImplicit
theorem ld_glob {E : Value -> Shared -> Prop} {pins : List (Addr × Obj)} {s : Shared} {σ : St} {H : Hp} {x : Str} {u : Value} {pos : Pos} {Q : Value -> Shared -> Prop} (I : Inv X pins σ H s) (hg : Gl X x) (hm : X.mg x = some u) (h : Q u s)
    (hd : (x == ("__debug__" : Str)) = false := by decide) : wpAny (model X.prog X.w) X.A (eval (.Name x pos) X.env) Q E s :=
  Calls.Name_function_global I.ok.kind hg (Calls.loadGlobal_global (by rw [I.ok.glob]; exact I.mod.glob.keeps I.bk) hm h) hd
theorem ld_blt {E : Value -> Shared -> Prop} {pins : List (Addr × Obj)} {s : Shared} {σ : St} {H : Hp} {x : Str} {u : Value} {pos : Pos} {Q : Value -> Shared -> Prop} (I : Inv X pins σ H s) (hg : Gl X x) (hm : X.mg x = none) (hv : bootBuiltins x = some u) (h : Q u s)
    (hn : x ≠ "__name__" := by decide) (hd : (x == ("__debug__" : Str)) = false := by decide) : wpAny (model X.prog X.w) X.A (eval (.Name x pos) X.env) Q E s := by
  obtain ⟨mb, h1, h2⟩ := I.mod.blt
  exact Calls.Name_function_global I.ok.kind hg (Calls.loadGlobal_builtin (by rw [I.ok.glob]; exact I.mod.glob.keeps I.bk) hm (by rw [I.ok.blt]; exact h1.keeps I.bk) ((h2 x hn).trans hv) h) hd
variable {a b : Expr} {ta tb : TE} {pos : Pos}
def PC (X : Cx) (op : CmpOp) (a b : Expr) (t : TE) : Prop :=
  ∀ (pins : List (Addr × Obj)) (s : Shared) (σ : St) (H : Hp) (Q : VK), Inv X pins σ H s -> t σ H Q ->
    wpAny (model X.prog X.w) X.A (eval a X.env) (λ v s₁ => wpAny (model X.prog X.w) X.A (eval b X.env) (λ u s₂ => wpAny (model X.prog X.w) X.A (compareOp op v u) (EP X pins σ Q) X.xe s₂) X.xe s₁) X.xe s
theorem nobehind (b : Expr) {op : CmpOp} (h : op ≠ .In) (h2 : op ≠ .NotIn) : behindInMarks op b = false := by
  have e1 : (op == CmpOp.In) = false := by cases op <;> first | rfl | exact absurd rfl h
  have e2 : (op == CmpOp.NotIn) = false := by cases op <;> first | rfl | exact absurd rfl h2
  cases b <;> simp [behindInMarks, e1, e2]
def tIsN (ta : TE) : TE := λ σ H Q => ta σ H λ x H1 => Q (.bl (decide (x = .non))) H1
def tNotN (ta : TE) : TE := λ σ H Q => ta σ H λ x H1 => Q (.bl (!decide (x = .non))) H1
theorem RelV.none_iff {x : V} {v : Value} (r : RelV x v) : (v == Value.none) = decide (x = .non) := by
  cases x with
  | non => cases r; rfl
  | bl _ => cases r; rfl
  | int _ => obtain ⟨t, rfl⟩ := r; rfl
  | str _ => obtain ⟨t, rfl⟩ := r; rfl
  | byt _ => obtain ⟨t, rfl⟩ := r; rfl
  | flt _ => obtain ⟨t, rfl⟩ := r; rfl
  | ref _ => cases r; rfl
  | ty _ => cases r; rfl
theorem pc_isN {j pos'} (ha : PE X a ta) : PC X .Is a (.Constant .none j pos') (tIsN ta) := by
  intro pins s σ H Q I h
  refine thn (ha pins s σ H _ I h) λ v s1 ⟨x, H1, I1, r1, q1⟩ => ?_
  exact Constant_none (is_none_gen ⟨.bl _, H1, I1, by rw [r1.none_iff]; rfl, q1⟩)
theorem pc_notN {j pos'} (ha : PE X a ta) : PC X .IsNot a (.Constant .none j pos') (tNotN ta) := by
  intro pins s σ H Q I h
  refine thn (ha pins s σ H _ I h) λ v s1 ⟨x, H1, I1, r1, q1⟩ => ?_
  exact Constant_none (isnot_none_gen ⟨.bl _, H1, I1, by rw [r1.none_iff]; rfl, q1⟩)
def tB (t : TE) : TT := λ σ H Q => t σ H λ x H1 => ∃ c, x = .bl c /\ Q c H1
theorem pe_cmp {op : CmpOp} {t : TE} (h : PC X op a b t) (h1 : behindInMarks op b = false := by first | exact nobehind _ (by decide) (by decide) | rfl) : PE X (.Compare a [op] [b] pos) t := λ pins s σ H Q I hw => wpAny_Compare1 (h pins s σ H Q I hw) h1
theorem pt_cmp {op : CmpOp} {t : TE} (h : PC X op a b t) (h1 : behindInMarks op b = false := by first | exact nobehind _ (by decide) (by decide) | rfl) : PT X (.Compare a [op] [b] pos) (tB t) := by
  intro pins s σ H Q I hw
  refine wpAny_isTrue_Compare1 (thn (h pins s σ H _ I hw) λ v s1 h1 => thn h1 λ u s2 h2 => thn h2 λ c s3 ⟨x, H1, I1, r1, q1⟩ => ?_) h1
  obtain ⟨d, rfl, q⟩ := q1
  cases r1
  exact wpAny_truthy_bool ⟨H1, I1, q⟩
variable {tA tB' : TT} {rest : List Expr}
def tAnd (t u : TT) : TT := λ σ H Q => t σ H λ c H1 => if c = true then u σ H1 Q else Q false H1
def tOr (t u : TT) : TT := λ σ H Q => t σ H λ c H1 => if c = true then Q true H1 else u σ H1 Q
def tNot (t : TT) : TT := λ σ H Q => t σ H λ c H1 => Q (!c) H1
theorem pw_and1 (ha : PT X a tA) : PW X (.BoolOp .And [a] pos) tA := by
  intro wh pins s σ H Q I h
  refine isTrue_and (thn (ha pins s σ H Q I h) λ c s1 e => ?_)
  cases c with
  | true => exact isTrue_and_nil e
  | false => exact e
theorem pw_or1 (ha : PT X a tA) : PW X (.BoolOp .Or [a] pos) tA := by
  intro wh pins s σ H Q I h
  refine isTrue_or (thn (ha pins s σ H Q I h) λ c s1 e => ?_)
  cases c with
  | false => exact isTrue_or_nil e
  | true => exact e
theorem pw_and (ha : PT X a tA) (hb : PW X (.BoolOp .And (b :: rest) pos) tB') : PW X (.BoolOp .And (a :: b :: rest) pos) (tAnd tA tB') := by
  intro wh pins s σ H Q I h
  refine isTrue_and (thn (ha pins s σ H _ I h) λ c s1 ⟨H1, I1, q1⟩ => ?_)
  cases c with
  | true => exact hb wh pins s1 σ H1 Q I1 q1
  | false => exact ⟨H1, I1, q1⟩
theorem pw_or (ha : PT X a tA) (hb : PW X (.BoolOp .Or (b :: rest) pos) tB') : PW X (.BoolOp .Or (a :: b :: rest) pos) (tOr tA tB') := by
  intro wh pins s σ H Q I h
  refine isTrue_or (thn (ha pins s σ H _ I h) λ c s1 ⟨H1, I1, q1⟩ => ?_)
  cases c with
  | true => exact ⟨H1, I1, q1⟩
  | false => exact hb wh pins s1 σ H1 Q I1 q1
theorem pt_not (ha : PT X a tA) : PT X (.UnaryOp .Not a pos) (tNot tA) := by
  intro pins s σ H Q I h
  exact isTrue_not (ha pins s σ H (λ c H1 => Q (!c) H1) I h)
def tAndV (ta tb : TE) : TE := λ σ H Q => ta σ H λ x H1 => ∃ c, x = .bl c /\ if c = true then tb σ H1 Q else Q (.bl false) H1
def tOrV (ta tb : TE) : TE := λ σ H Q => ta σ H λ x H1 => ∃ c, x = .bl c /\ if c = true then Q (.bl true) H1 else tb σ H1 Q
theorem pe_one {op} {t : TE} (h : PE X a t) : PE X (.BoolOp op [a] pos) t := λ pins s σ H Q I hw => BoolOp_one (h pins s σ H Q I hw)
theorem pe_and (ha : PE X a ta) (hb : PE X (.BoolOp .And (b :: rest) pos) tb) : PE X (.BoolOp .And (a :: b :: rest) pos) (tAndV ta tb) := by
  intro pins s σ H Q I h
  refine BoolOp_and (thn (ha pins s σ H _ I h) λ v s1 ⟨x, H1, I1, r1, q1⟩ => ?_)
  obtain ⟨c, rfl, q1⟩ := q1
  cases r1
  refine wpAny_truthy_bool ?_
  cases c with
  | true => exact hb pins s1 σ H1 Q I1 q1
  | false => exact ⟨.bl false, H1, I1, rfl, q1⟩
theorem pe_or (ha : PE X a ta) (hb : PE X (.BoolOp .Or (b :: rest) pos) tb) : PE X (.BoolOp .Or (a :: b :: rest) pos) (tOrV ta tb) := by
  intro pins s σ H Q I h
  refine BoolOp_or (thn (ha pins s σ H _ I h) λ v s1 ⟨x, H1, I1, r1, q1⟩ => ?_)
  obtain ⟨c, rfl, q1⟩ := q1
  cases r1
  refine wpAny_truthy_bool ?_
  cases c with
  | false => exact hb pins s1 σ H1 Q I1 q1
  | true => exact ⟨.bl true, H1, I1, rfl, q1⟩
def tIf (t : TT) (ta tb : TE) : TE := λ σ H Q => t σ H λ c H1 => if c = true then ta σ H1 Q else tb σ H1 Q
theorem pe_ifExp {c : Expr} (hc : PT X c tA) (ha : PE X a ta) (hb : PE X b tb) : PE X (.IfExp c a b pos) (tIf tA ta tb) := by
  intro pins s σ H Q I h
  refine wpAny_IfExp (thn (hc pins s σ H _ I h) λ d s1 ⟨H1, I1, q1⟩ => ?_)
  cases d with
  | true => exact ha pins s1 σ H1 Q I1 q1
  | false => exact hb pins s1 σ H1 Q I1 q1
end
end L2
namespace L2
open PySem PySem.Spec PyProof.Rows
def SqL (K : PySem.W.Frag) (H : Hp) (a : Addr) (xs : List V) : Prop :=
  Rd H a (.lst xs) ∨
    ∃ (o : Obj) (its : Array Value) (n : Nat), K.lookup a = some o /\ o.cls = .type "list" /\ o.dict = none /\ o.data = .seq its n /\ its.size <= sizeLine /\ Vals xs its.toList
def SqT (K : PySem.W.Frag) (H : Hp) (a : Addr) (xs : List V) : Prop :=
  Rd H a (.tup xs) ∨
    ∃ (o : Obj) (its : Array Value) (n : Nat), K.lookup a = some o /\ o.cls = .type "tuple" /\ o.data = .seq its n /\ its.size <= sizeLine /\ Vals xs its.toList
def absV : Value -> Option V
  | .none => some .non
  | .bool b => some (.bl b)
  | .int i _ => some (.int i)
  | .str x _ => some (.str x)
  | .bytes b _ => some (.byt b)
  | .float b _ => some (.flt b)
  | .ref a => some (.ref a)
  | .type n => some (.ty n)
  | _ => none
theorem RelV.abs {x : V} {u : Value} (r : RelV x u) : absV u = some x := by
  cases x with
  | non => cases r; rfl
  | bl _ => cases r; rfl
  | int _ => obtain ⟨t, rfl⟩ := r; rfl
  | str _ => obtain ⟨t, rfl⟩ := r; rfl
  | byt _ => obtain ⟨t, rfl⟩ := r; rfl
  | flt _ => obtain ⟨t, rfl⟩ := r; rfl
  | ref _ => cases r; rfl
  | ty _ => cases r; rfl
theorem RelV.inj {x y : V} {u : Value} (r : RelV x u) (q : RelV y u) : x = y := Option.some.inj (r.abs.symm.trans q.abs)
theorem Vals.inj : ∀ {xs ys : List V} {us : List Value}, Vals xs us -> Vals ys us -> xs = ys
  | _, _, _, .nil, .nil => rfl
  | _, _, _, .cons r t, .cons r' t' => by rw [r.inj r', Vals.inj t t']
section
variable {X : Cx} {pins : List (Addr × Obj)} {σ : St} {H : Hp} {s : Shared} {a : Addr} {xs ys : List V}
theorem SqL.of {K : PySem.W.Frag} (h : H a = some (.lst xs)) : SqL K H a xs := .inl (.inl h)
theorem SqT.of {K : PySem.W.Frag} (h : H a = some (.tup xs)) : SqT K H a xs := .inl (.inl h)
theorem Inv.list (I : Inv X pins σ H s) (h : SqL X.K H a xs) : ∃ its : List Value, Vals xs its /\ PlainL s.heap a its.toArray /\ xs.length <= sizeLine := by
  rcases h with h | ⟨o, its, n, hk, hc, hd, hs, hz, r⟩
  . obtain ⟨z, its, n, r, e⟩ := h.ok I.hok
    exact ⟨its, r, ⟨_, n, e, rfl, rfl, rfl⟩, z⟩
  . refine ⟨its.toList, r, ⟨o, n, I.kIn a o hk, hc, hd, by simpa using hs⟩, ?_⟩
    have e := r.length
    simp only [Array.length_toList] at e
    omega
theorem Inv.tuple (I : Inv X pins σ H s) (h : SqT X.K H a xs) : ∃ its : List Value, Vals xs its /\ IsTup s.heap a its.toArray /\ xs.length <= sizeLine := by
  rcases h with h | ⟨o, its, n, hk, hc, hs, hz, r⟩
  . obtain ⟨z, its, r, p⟩ := h.ok I.hok
    exact ⟨its, r, p, z⟩
  . refine ⟨its.toList, r, ⟨o, I.kIn a o hk, hc, n, by simpa using hs⟩, ?_⟩
    have e := r.length
    simp only [Array.length_toList] at e
    omega
theorem Inv.list_inj (I : Inv X pins σ H s) (h : SqL X.K H a xs) (h' : SqL X.K H a ys) : xs = ys := by
  obtain ⟨its, r, ⟨o, n, e, _, _, d⟩, _⟩ := I.list h
  obtain ⟨its', r', ⟨o', n', e', _, _, d'⟩, _⟩ := I.list h'
  rw [e] at e'; cases e'
  rw [d] at d'
  injection d' with d1 _
  have : its = its' := by simpa using congrArg Array.toList d1
  subst this
  exact r.inj r'
theorem Inv.tuple_inj (I : Inv X pins σ H s) (h : SqT X.K H a xs) (h' : SqT X.K H a ys) : xs = ys := by
  obtain ⟨its, r, ⟨o, e, _, n, d⟩, _⟩ := I.tuple h
  obtain ⟨its', r', ⟨o', e', _, n', d'⟩, _⟩ := I.tuple h'
  rw [e] at e'; cases e'
  rw [d] at d'
  injection d' with d1 _
  have : its = its' := by simpa using congrArg Array.toList d1
  subst this
  exact r.inj r'
end
abbrev Cx.wish (X : Cx) (E : Value -> Shared -> Prop) : Cx := { X with xe := E }
abbrev Cx.nox (X : Cx) : Cx := X.wish λ _ _ => False
theorem Cx.Ok.wish {X : Cx} (ok : X.Ok) (E : Value -> Shared -> Prop) : (X.wish E).Ok :=
  ⟨ok.mod, ok.kind, ok.glob, ok.blt, ok.above, ok.inj, ok.has, ok.cab, ok.hd, ok.frames, ok.stk, ok.exf, ok.bs, ok.bsz, ok.noex, ok.exfs, ok.funs, ok.frf⟩
theorem Cx.Ok.unwish {X : Cx} {E : Value -> Shared -> Prop} (ok : (X.wish E).Ok) : X.Ok :=
  ⟨ok.mod, ok.kind, ok.glob, ok.blt, ok.above, ok.inj, ok.has, ok.cab, ok.hd, ok.frames, ok.stk, ok.exf, ok.bs, ok.bsz, ok.noex, ok.exfs, ok.funs, ok.frf⟩
section
variable {X : Cx} {pins : List (Addr × Obj)} {σ : St} {H : Hp} {s : Shared} {E : Value -> Shared -> Prop}
theorem Inv.wish (I : Inv X pins σ H s) (E : Value -> Shared -> Prop) : Inv (X.wish E) pins σ H s := ⟨I.ok.wish E, I.os, I.bare, I.base, I.loc, I.cell, I.free, I.freeC, I.pin, I.hok, I.len⟩
theorem Inv.unwish (I : Inv (X.wish E) pins σ H s) : Inv X pins σ H s := ⟨I.ok.unwish, I.os, I.bare, I.base, I.loc, I.cell, I.free, I.freeC, I.pin, I.hok, I.len⟩
theorem SP.unwish {D : Ends} {f : Flow} {s' : Shared} (h : SP (X.wish E) pins D f s') : SP X pins D f s' := by
  cases f with
  | next => obtain ⟨σ', H', I, q⟩ := h; exact ⟨σ', H', I.unwish, q⟩
  | brk => obtain ⟨σ', H', I, q⟩ := h; exact ⟨σ', H', I.unwish, q⟩
  | cont => obtain ⟨σ', H', I, q⟩ := h; exact ⟨σ', H', I.unwish, q⟩
  | ret u => obtain ⟨v, σ', H', I, r, q⟩ := h; exact ⟨v, σ', H', I.unwish, r, q⟩
theorem PSs.nox {st : List Stmt} {t : TS} (h : PSs X.nox st t) : PSs X st t := λ pins s σ H D I hw =>
  wpAny_mono (h pins s σ H D (I.wish _) hw) (λ _ _ q => q.unwish) λ _ _ z => False.elim z
end
section
variable {X : Cx} {st : Stmt} {rest : List Stmt} {t u : TS} {e : Expr} {te : TE} {pos : Pos}
def tNext : TS := λ D σ H => D.nx σ H
def tSeq (t u : TS) : TS := λ D σ H => t { D with nx := u D } σ H
theorem pss_nil : PSs X [] tNext := λ _ _ σ H _ I h => wpAny_execs_nil ⟨σ, H, I, h⟩
theorem pss_cons (h1 : PS X st t) (h2 : PSs X rest u) : PSs X (st :: rest) (tSeq t u) := by
  intro pins s σ H D I h
  refine wpAny_execs_cons (thn (h1 pins s σ H { D with nx := u D } I h) λ f s1 q => ?_)
  cases f with
  | next =>
    obtain ⟨σ', H', I', q⟩ := q
    exact h2 pins s1 σ' H' D I' q
  | ret v => exact q
  | brk => exact q
  | cont => exact q
theorem pss_one (h1 : PS X st t) : PSs X [st] t := by
  intro pins s σ H D I h
  refine wpAny_execs_cons (thn (h1 pins s σ H D I h) λ f s1 q => ?_)
  cases f with
  | next => exact wpAny_execs_nil q
  | ret v => exact q
  | brk => exact q
  | cont => exact q
theorem Inv.quiet {pins : List (Addr × Obj)} {σ : St} {H : Hp} {s : Shared} (I : Inv X pins σ H s) : interactive X.env = false := by simp [interactive, I.ok.kind]
def tDrop (te : TE) : TS := λ D σ H => te σ H λ _ H1 => D.nx σ H1
theorem ps_expr (he : PE X e te) (hs : swapsWith e none pos.line X.env = pure false := by rfl) : PS X (.Expr e pos) (tDrop te) := by
  intro pins s σ H D I h
  exact wpAny_Expr_any (thn (he pins s σ H _ I h) λ v s1 ⟨x, H1, I1, r1, q1⟩ => ⟨σ, H1, I1, q1⟩) I.quiet hs
def tRet (te : TE) : TS := λ D σ H => te σ H D.rt
theorem ps_ret (he : PE X e te) : PS X (.Return (some e) pos) (tRet te) := by
  intro pins s σ H D I h
  exact wpAny_Return_some (thn (he pins s σ H _ I h) λ v s1 ⟨x, H1, I1, r1, q1⟩ => ⟨x, σ, H1, I1, r1, q1⟩)
def tIfS (c : TT) (t u : TS) : TS := λ D σ H => c σ H λ b H1 => if b = true then t D σ H1 else u D σ H1
theorem ps_if {c : Expr} {a b : List Stmt} {tc : TT} (hc : PT X c tc) (ha : PSs X a t) (hb : PSs X b u) : PS X (.If c a b pos) (tIfS tc t u) := by
  intro pins s σ H D I h
  refine wpAny_If (thn (hc pins s σ H _ I h) λ d s1 ⟨H1, I1, q1⟩ => ?_)
  cases d with
  | true => exact ha pins s1 σ H1 D I1 q1
  | false => exact hb pins s1 σ H1 D I1 q1
def tNever : TS := λ _ _ _ => False
theorem ps_never : PS X st tNever := λ _ _ _ _ _ _ h => h.elim
end
abbrev TG := V -> St -> Hp -> (St -> Hp -> Prop) -> Prop
abbrev TGs := List V -> St -> Hp -> (St -> Hp -> Prop) -> Prop
def PG (X : Cx) (target : Expr) (t : TG) : Prop :=
  ∀ (pins : List (Addr × Obj)) (s : Shared) (σ : St) (H : Hp) (v : V) (u : Value) (Q : St -> Hp -> Prop), Inv X pins σ H s -> RelV v u -> t v σ H Q ->
    wpAny (model X.prog X.w) X.A (assign target X.env u) (λ _ s' => ∃ σ' H', Inv X pins σ' H' s' /\ Q σ' H') X.xe s
def PGs (X : Cx) (ts : List Expr) (t : TGs) : Prop :=
  ∀ (pins : List (Addr × Obj)) (s : Shared) (σ : St) (H : Hp) (vs : List V) (us : List Value) (Q : St -> Hp -> Prop), Inv X pins σ H s -> Vals vs us -> t vs σ H Q ->
    wpAny (model X.prog X.w) X.A (assignInOrder ((assignEach ts X.env).map (·.2)) us) (λ _ s' => ∃ σ' H', Inv X pins σ' H' s' /\ Q σ' H') X.xe s
abbrev TIp := V -> V -> Hp -> VK -> Prop
def PIp (X : Cx) (op : Operator) (t : TIp) : Prop :=
  ∀ (pins : List (Addr × Obj)) (s : Shared) (σ : St) (H : Hp) (x y : V) (v u : Value) (Q : VK), Inv X pins σ H s -> RelV x v -> RelV y u -> t x y H Q ->
    wpAny (model X.prog X.w) X.A (inplaceOp op v u) (EP X pins σ Q) X.xe s
section
variable {X : Cx} {pos : Pos}
def gName (i : Nat) : TG := λ v σ H Q => Q (σ.set i (some v)) H
theorem pg_name {i : Nat} {x : Str} (hN : X.N.Nodup) (hi : X.N[i]? = some x) (hx : Loc X.env.scope x) (hf : X.fn x = true ∨ X.env.scope.names.lookup x = some .local := by first | exact .inl rfl | exact .inr rfl | assumption) : PG X (.Name x pos) (gName i) := by
  intro pins s σ H v u Q I r h
  exact wpAny_assign_Name (store_ok I hN hi hx r (λ s' I' => ⟨_, H, I', h⟩) hf)
def gNil : TGs := λ vs σ H Q => vs = [] /\ Q σ H
def gCons (t : TG) (u : TGs) : TGs := λ vs σ H Q => ∃ v r, vs = v :: r /\ t v σ H λ σ' H' => u r σ' H' Q
theorem pgs_nil : PGs X [] gNil := by
  intro pins s σ H vs us Q I r h
  obtain ⟨e, h⟩ := h
  subst e
  cases r
  exact assignInOrder_nil ⟨σ, H, I, h⟩
theorem pgs_cons {e : Expr} {es : List Expr} {t : TG} {u : TGs} (h1 : PG X e t) (h2 : PGs X es u)
    (hs : (assignEach (e :: es) X.env).map (·.2) = assign e X.env :: (assignEach es X.env).map (·.2) := by rfl) : PGs X (e :: es) (gCons t u) := by
  intro pins s σ H vs us Q I r h
  obtain ⟨v, vr, e1, h⟩ := h
  subst e1
  cases r with
  | cons r rr =>
    rw [hs]
    refine assignInOrder_cons (thn (h1 pins s σ H _ _ _ I r h) λ _ s1 ⟨σ1, H1, I1, q1⟩ => ?_)
    exact h2 pins s1 σ1 H1 _ _ Q I1 rr q1
def gTup (K : PySem.W.Frag) (n : Nat) (t : TGs) : TG := λ v σ H Q => ∃ a xs, v = .ref a /\ SqT K H a xs /\ xs.length = n /\ t xs σ H Q
theorem pg_tup {es : List Expr} {k : Nat} {t : TGs} {n : Nat} (hc : X.calm = true) (h : PGs X es t)
    (hn : (assignEach es X.env).length = n := by rfl) (hst : (assignEach es X.env).findIdx? (·.1) = none := by rfl) : PG X (.Tuple es k pos) (gTup X.K n t) := by
  intro pins s σ H v u Q I r hw
  obtain ⟨a, xs, e1, hq, hl, hw⟩ := hw
  subst e1
  cases r
  obtain ⟨its, rv, ht, hz⟩ := I.tuple hq
  refine assign_Tuple_tuple (I.ok.hd hc) ht (by simp [hn, <- hl, rv.length]) hst λ h' hx => ?_
  have I1 : Inv X pins σ H { s with heap := h' } := I.kept (t' := s.toks) λ b o e => hx b o (Nat.ne_of_lt (Heap.lt_size e)) e
  exact h pins _ σ H xs _ Q I1 (by simpa using rv) hw
def tAsg (te : TE) (g : TG) : TS := λ D σ H => te σ H λ x H1 => g x σ H1 D.nx
theorem ps_asg {tg e : Expr} {te : TE} {g : TG} (he : PE X e te) (hg : PG X tg g) (hs : swapsWithSole [tg] e pos.line X.env = pure false := by rfl) (hw : swappedStores [tg] e X.env = pure none := by rfl)
    (h1 : (assignEach [tg] X.env).map (·.2) = [assign tg X.env] := by rfl) : PS X (.Assign [tg] e pos) (tAsg te g) := by
  intro pins s σ H D I h
  refine wpAny_Assign_stores (thn (he pins s σ H _ I h) λ v s1 ⟨x, H1, I1, r1, q1⟩ => ?_) hs hw
  rw [h1]
  exact thn (hg pins s1 σ H1 x v _ I1 r1 q1) λ _ s2 q => q
theorem ps_set {i : Nat} {x : Str} {e : Expr} {te : TE} {pos' : Pos} (hN : X.N.Nodup) (hi : X.N[i]? = some x) (hx : Loc X.env.scope x) (he : PE X e te) (hs : swapsWith e (some (.Name x pos')) pos.line X.env = pure false := by rfl) (hf : X.fn x = true ∨ X.env.scope.names.lookup x = some .local := by first | exact .inl rfl | exact .inr rfl | assumption) :
    PS X (.Assign [.Name x pos'] e pos) (tAsg te (gName i)) := by
  intro pins s σ H D I h
  refine wpAny_Assign_Name (thn (he pins s σ H _ I h) λ v s1 ⟨y, H1, I1, r1, q1⟩ => ?_) hs
  exact store_ok I1 hN hi hx r1 (λ s2 I2 => ⟨_, H1, I2, q1⟩) hf
def tAug (i : Nat) (te : TE) (ti : TIp) : TS := λ D σ H => ∃ x, σ[i]? = some (some x) /\ te σ H λ y H1 => ti x y H1 λ z H2 => D.nx (σ.set i (some z)) H2
theorem ps_aug {i : Nat} {x : Str} {e : Expr} {te : TE} {op : Operator} {ti : TIp} {pos' : Pos} (hN : X.N.Nodup) (hi : X.N[i]? = some x) (hx : Loc X.env.scope x) (he : PE X e te) (ho : PIp X op ti) (hf : X.fn x = true ∨ X.env.scope.names.lookup x = some .local := by first | exact .inl rfl | exact .inr rfl | assumption) :
    PS X (.AugAssign (.Name x pos') op e pos) (tAug i te ti) := by
  intro pins s σ H D I h
  obtain ⟨v, e1, h⟩ := h
  obtain ⟨m, hn, hl⟩ := I.loc
  have vis : Vis X.env.scope x := by rcases hx with k | k; exact .inl k; exact .inr (.inl k)
  obtain ⟨u, r, l⟩ := hl i x v hi e1 vis
  refine wpAny_AugAssign_Name ?_
  have go : wpAny (model X.prog X.w) X.A (eval e X.env) (λ w s₂ => wpAny (model X.prog X.w) X.A (inplaceOp op u w) (λ r s₃ => wpAny (model X.prog X.w) X.A (storeName X.env x r) (λ _ => SP X pins D .next) X.xe s₃) X.xe s₂) X.xe s := by
    refine thn (he pins s σ H _ I h) λ w s1 ⟨y, H1, I1, r1, q1⟩ => ?_
    refine thn (ho pins s1 σ H1 v y u w _ I1 r r1 q1) λ z s2 ⟨zv, H2, I2, r2, q2⟩ => ?_
    exact store_ok I2 hN hi hx r2 (λ s3 I3 => ⟨_, H2, I3, q2⟩) hf
  rcases l with ⟨hk, hm⟩ | ⟨hk, c, hc, hcell⟩
  . exact wpAny_loadName_local I.ok.kind hk hn hm go
  . rcases hk with hk | hk
    . exact wpAny_loadName_cell I.ok.kind hk hc hcell go
    . rcases hx with k | k
      . have : X.env.scope.names.lookup x = some .free := hk
        rw [k] at this; cases this
      . have : X.env.scope.names.lookup x = some .free := hk
        rw [k] at this; cases this
def ipI (f : Int -> Int -> Int) : TIp := λ x y H Q => ∃ i j, x = .int i /\ y = .int j /\ Q (.int (f i j)) H
theorem ip_sub : PIp X .Sub (ipI λ i j => i - j) := by
  intro pins s σ H x y v u Q I r1 r2 h
  obtain ⟨i, j, e1, e2, q⟩ := h
  subst e1; subst e2
  obtain ⟨t, rfl⟩ := r1
  obtain ⟨t', rfl⟩ := r2
  exact isub_int ⟨.int _, H, I.tok _, ⟨_, rfl⟩, q⟩
end
section
variable {X : Cx} {pos : Pos}
end
structure It where
  go : Nat -> Hp -> Prop
  yld : Nat -> Hp -> V -> Hp -> Prop
  stop : Nat -> Hp -> Prop
def FpOk (X : Cx) (pins : List (Addr × Obj)) (H : Hp) (b : Addr) : Prop :=
  H b = none /\ b ≠ X.env.locals /\ b ∉ X.fs /\ (b ∈ X.ex ∨ X.s₀.heap.objs.size <= b) /\ (∀ x c, X.env.cells.lookup x = some c -> c ≠ b) /\ ∀ p ∈ X.pn ++ pins, p.1 ≠ b
theorem Inv.fpOk {X : Cx} {pins : List (Addr × Obj)} {σ : St} {H H' : Hp} {s : Shared} {b : Addr} (I : Inv X pins σ H s) (hb : s.heap.objs.size <= b) (hn : H' b = none) : FpOk X pins H' b := by
  refine ⟨hn, Nat.ne_of_gt (Nat.lt_of_lt_of_le I.lt hb), I.nofs hb, .inr (Nat.le_trans I.sz hb), λ x c e z => ?_, λ p hp z => ?_⟩
  . obtain ⟨v, q⟩ := I.cell x c e
    exact absurd (Nat.lt_of_lt_of_le q.lt (by rw [z]; exact hb)) (Nat.lt_irrefl _)
  . exact absurd (Nat.lt_of_lt_of_le (Heap.lt_size (I.pin p hp).1) (by rw [z]; exact hb)) (Nat.lt_irrefl _)
structure Turn (P : Program) (w : World) (K : PySem.W.Frag) (tg : Expr) (J : It) (fp : List Addr) (it : Addr) (tn : Nat -> Heap -> Prop) : Prop where
  mem : it ∈ fp
  obj : ∀ i h, tn i h -> ∀ b ∈ fp, ∃ o, h.get? b = some o /\ ∀ v, o.data ≠ .cell v
  keep : ∀ i h h', tn i h -> (∀ b ∈ fp, ∀ o, h.get? b = some o -> h'.get? b = some o) -> tn i h'
  item : ∀ (X : Cx), X.prog = P -> X.w = w -> X.K = K -> X.calm = true -> ∀ (i : Nat) (pins : List (Addr × Obj)) (s : Shared) (σ : St) (H : Hp) (E : Value -> Shared -> Prop), Inv X pins σ H s -> (∀ b ∈ fp, FpOk X pins H b) -> tn i s.heap -> J.go i H ->
    wpAny (model P w) X.A (pyNext (.ref it)) (λ r s1 => ∃ u, r = some u /\
      wpAny (model P w) X.A (letOwnedTupleGo tg (.ref it) u) (λ _ s2 => ∃ x H', Inv X pins σ H' s2 /\ RelV x u /\ J.yld i H x H' /\ tn (i + 1) s2.heap /\ ∀ b ∈ fp, H' b = none) E s1) E s
  done : ∀ (X : Cx), X.prog = P -> X.w = w -> X.K = K -> X.calm = true -> ∀ (i : Nat) (pins : List (Addr × Obj)) (s : Shared) (σ : St) (H : Hp) (E : Value -> Shared -> Prop), Inv X pins σ H s -> (∀ b ∈ fp, FpOk X pins H b) -> tn i s.heap -> J.stop i H ->
    wpAny (model P w) X.A (pyNext (.ref it)) (λ r s1 => r = none /\ Inv X pins σ H s1) E s
  self : ∀ (A : Around) (i : Nat) (s : Shared) (Q : Value -> Shared -> Prop) (E : Value -> Shared -> Prop), tn i s.heap -> Q (.ref it) s -> wpAny (model P w) A (pyIter (.ref it)) Q E s
abbrev TI := St -> Hp -> (It -> Hp -> Prop) -> Prop
def PIE (X : Cx) (pins : List (Addr × Obj)) (σ : St) (tg : Expr) (R : It -> Hp -> Prop) (itv : Value) (s2 : Shared) : Prop :=
  ∃ (it : Addr) (fp : List Addr) (tn : Nat -> Heap -> Prop) (J : It) (H' : Hp), itv = .ref it /\ Inv X pins σ H' s2 /\ Turn X.prog X.w X.K tg J fp it tn /\ tn 0 s2.heap /\ (∀ b ∈ fp, FpOk X pins H' b) /\ R J H'
def PI (X : Cx) (tg iter : Expr) (wi : TI) : Prop :=
  ∀ (pins : List (Addr × Obj)) (s : Shared) (σ : St) (H : Hp) (R : It -> Hp -> Prop), Inv X pins σ H s -> wi σ H R ->
    wpAny (model X.prog X.w) X.A (eval iter X.env) (λ v s1 => wpAny (model X.prog X.w) X.A (pyIter v) (PIE X pins σ tg R) X.xe s1) X.xe s
theorem go_of {M : Model} {A : Around} {E : Value -> Shared -> Prop} {s : Shared} {tg : Expr} {it : Addr} {u : Value} {o : Obj} {n : String} {vs : Array Value} {Q : Unit -> Shared -> Prop} (ho : s.heap.get? it = some o) (hc : o.cls = .type n) (hd : o.data = .fields vs)
    (hn : ["enumerate", "zip", "dict_itemiterator", "dict_reverseitemiterator", "odict_iterator", "itertools.zip_longest", "itertools.pairwise"].contains n = false) (hQ : Q () s) : wpAny M A (letOwnedTupleGo tg (.ref it) u) Q E s := by
  unfold letOwnedTupleGo
  cases tg <;> first
    | exact wpAny_pure hQ
    | (cases u <;> first
        | exact wpAny_pure hQ
        | (refine wpAny_bind (wpAny_load ho ?_)
           rw [hc, hd]
           show wpAny M A (if (["enumerate", "zip", "dict_itemiterator", "dict_reverseitemiterator", "odict_iterator", "itertools.zip_longest", "itertools.pairwise"].contains n && vs[0]? == some (rawInt _)) = true then _ else _) Q E s
           rw [if_neg (by intro h; rw [hn, Bool.false_and] at h; cases h)]
           exact wpAny_pure hQ))
def Itl (K : PySem.W.Frag) (a : Addr) : It :=
  ⟨λ i H => ∃ xs x, SqL K H a xs /\ xs[i]? = some x, λ i H x H' => H' = H /\ ∀ xs, SqL K H a xs -> xs[i]? = some x, λ i H => ∃ xs, SqL K H a xs /\ xs.length <= i⟩
def Itt (K : PySem.W.Frag) (a : Addr) : It :=
  ⟨λ i H => ∃ xs x, SqT K H a xs /\ xs[i]? = some x, λ i H x H' => H' = H /\ ∀ xs, SqT K H a xs -> xs[i]? = some x, λ i H => ∃ xs, SqT K H a xs /\ xs.length <= i⟩
def Itr (lo : Int) (n : Nat) : It := ⟨λ i _ => i < n, λ i H x H' => H' = H /\ x = .int (lo + i), λ i _ => n <= i⟩
theorem turn_list {P : Program} {w : World} {K : PySem.W.Frag} {tg : Expr} (a it : Addr) : Turn P w K tg (Itl K a) [it] it (λ i h => h.IsListIter it a i) where
  mem := by simp
  obj := λ i h st b hb => by
    have e : b = it := by simpa using hb
    subst e
    obtain ⟨o, e, c, d⟩ := st
    exact ⟨o, e, λ v z => by rw [d] at z; cases z⟩
  keep := λ i h h' st k => st.at λ o e => k it (by simp) o e
  item := by
    intro X hP hw hK hc i pins s σ H E I hf st hg
    subst hP hw hK
    obtain ⟨xs, x, hq, hx⟩ := hg
    obtain ⟨its, rv, p, hz⟩ := I.list hq
    obtain ⟨u, hu, ru⟩ := rv.get hx
    obtain ⟨f0, f1, f2, f3, f4, f5⟩ := hf it (by simp)
    refine wpAny_pyNext_list_item st p.isList (x := u) (by simpa using hu) λ h' st' sb => ?_
    have I1 : Inv X pins σ H { s with heap := h' } := I.turned (t' := s.toks) (λ b o hb e => (sb.2 b hb).trans e) f0 f1 f3 f4 f5
    obtain ⟨o, e, c, d⟩ := id st'
    exact ⟨u, rfl, go_of (s := { s with heap := h' }) e c d (by decide) ⟨x, H, I1, ru, ⟨rfl, λ ys hy => by rw [I.list_inj hy hq]; exact hx⟩, st', λ b hb => (hf b hb).1⟩⟩
  done := by
    intro X hP hw hK hc i pins s σ H E I hf st hg
    subst hP hw hK
    obtain ⟨xs, hq, hx⟩ := hg
    obtain ⟨its, rv, p, hz⟩ := I.list hq
    obtain ⟨f0, f1, f2, f3, f4, f5⟩ := hf it (by simp)
    have hl := rv.length
    exact wpAny_pyNext_list_end (I.ok.hd hc) st p.isList (by simp; omega) λ h' eb => ⟨rfl, I.turned (t' := s.toks) (λ b o hb e => eb b o hb e) f0 f1 f3 f4 f5⟩
  self := λ _ _ _ _ _ st h => wpAny_pyIter_listiter st h
theorem turn_tuple {P : Program} {w : World} {K : PySem.W.Frag} {tg : Expr} (a it : Addr) : Turn P w K tg (Itt K a) [it] it (λ i h => h.IsTupleIter it a i) where
  mem := by simp
  obj := λ i h st b hb => by
    have e : b = it := by simpa using hb
    subst e
    obtain ⟨o, e, c, d⟩ := st
    exact ⟨o, e, λ v z => by rw [d] at z; cases z⟩
  keep := λ i h h' st k => st.at λ o e => k it (by simp) o e
  item := by
    intro X hP hw hK hc i pins s σ H E I hf st hg
    subst hP hw hK
    obtain ⟨xs, x, hq, hx⟩ := hg
    obtain ⟨its, rv, p, hz⟩ := I.tuple hq
    obtain ⟨u, hu, ru⟩ := rv.get hx
    obtain ⟨f0, f1, f2, f3, f4, f5⟩ := hf it (by simp)
    refine wpAny_pyNext_tuple_item st (show s.heap.IsTuple a its.toArray from p) (x := u) (by simpa using hu) λ h' st' sb => ?_
    have I1 : Inv X pins σ H { s with heap := h' } := I.turned (t' := s.toks) (λ b o hb e => (sb.2 b hb).trans e) f0 f1 f3 f4 f5
    obtain ⟨o, e, c, d⟩ := id st'
    exact ⟨u, rfl, go_of (s := { s with heap := h' }) e c d (by decide) ⟨x, H, I1, ru, ⟨rfl, λ ys hy => by rw [I.tuple_inj hy hq]; exact hx⟩, st', λ b hb => (hf b hb).1⟩⟩
  done := by
    intro X hP hw hK hc i pins s σ H E I hf st hg
    subst hP hw hK
    obtain ⟨xs, hq, hx⟩ := hg
    obtain ⟨its, rv, p, hz⟩ := I.tuple hq
    obtain ⟨f0, f1, f2, f3, f4, f5⟩ := hf it (by simp)
    have hl := rv.length
    exact wpAny_pyNext_tuple_end (I.ok.hd hc) st (show s.heap.IsTuple a its.toArray from p) (by simp; omega) λ h' eb => ⟨rfl, I.turned (t' := s.toks) (λ b o hb e => eb b o hb e) f0 f1 f3 f4 f5⟩
  self := λ _ _ _ _ _ st h => wpAny_pyIter_tupleiter st h
theorem turn_range {P : Program} {w : World} {K : PySem.W.Frag} {tg : Expr} (it : Addr) (lo : Int) (n : Nat) : Turn P w K tg (Itr lo n) [it] it (λ i h => IsRangeIter h it (lo + (i : Nat) * 1) ((n : Int) - (i : Nat)) 1) where
  mem := by simp
  obj := λ i h st b hb => by
    have e : b = it := by simpa using hb
    subst e
    exact ⟨_, st, λ v z => by
      have z' : Data.fields _ = Data.cell v := z
      cases z'⟩
  keep := λ i h h' st k => k it (by simp) _ st
  item := by
    intro X hP hw hK hc i pins s σ H E I hf st hg
    subst hP hw hK
    obtain ⟨f0, f1, f2, f3, f4, f5⟩ := hf it (by simp)
    have W := Walks.range (prog := X.prog) (w := X.w) (I.ok.hd hc) it lo 1 n
    refine W.item i s _ _ hg st λ v h' tk hv st' kk => ?_
    obtain ⟨t, rfl⟩ := hv
    have I1 : Inv X pins σ H { s with heap := h', toks := tk } := I.turned (λ b o hb e => kk b o (by simpa using hb) e) f0 f1 f3 f4 f5
    refine ⟨_, rfl, go_of (s := { s with heap := h', toks := tk }) (n := "range_iterator") st' rfl rfl (by decide) ⟨.int (lo + i), H, I1, ⟨t, ?_⟩, ⟨rfl, rfl⟩, st', λ b hb => (hf b hb).1⟩⟩
    rw [Int.mul_one]
  done := by
    intro X hP hw hK hc i pins s σ H E I hf st hg
    subst hP hw hK
    obtain ⟨f0, f1, f2, f3, f4, f5⟩ := hf it (by simp)
    exact wpAny_pyNext_range_end (I.ok.hd hc) st (by have : n <= i := hg; omega) λ h' eb => ⟨rfl, I.turned (t' := s.toks) (λ b o hb e => eb b o hb e) f0 f1 f3 f4 f5⟩
  self := λ _ _ _ _ _ st h => wpAny_pyIter_rangeiter st h
end L2
namespace L2
open PySem PySem.Spec PyProof.Rows
section
variable {X : Cx} {tg : Expr}
def iList (K : PySem.W.Frag) (tl : TE) : TI := λ σ H R => tl σ H λ x H1 => ∃ a, x = .ref a /\ (∃ xs, SqL K H1 a xs) /\ R (Itl K a) H1
def iTup (K : PySem.W.Frag) (tl : TE) : TI := λ σ H R => tl σ H λ x H1 => ∃ a, x = .ref a /\ (∃ xs, SqT K H1 a xs) /\ R (Itt K a) H1
theorem pi_list {l : Expr} {tl : TE} (hl : PE X l tl) : PI X tg l (iList X.K tl) := by
  intro pins s σ H R I h
  refine thn (hl pins s σ H _ I h) λ v s1 ⟨x, H1, I1, r1, q1⟩ => ?_
  obtain ⟨a, e, ⟨xs, hq⟩, q⟩ := q1
  subst e
  cases r1
  obtain ⟨its, rv, p, hz⟩ := I1.list hq
  refine wpAny_pyIter_list p.isList ?_
  refine ⟨s1.heap.objs.size, [s1.heap.objs.size], _, _, H1, rfl, I1.kept (t' := s1.toks) λ b o e => Heap.get?_push_of_some _ e, turn_list a _, ⟨_, Heap.get?_push_size _ rfl, rfl, rfl⟩, λ b hb => ?_, q⟩
  have e : b = s1.heap.objs.size := by simpa using hb
  subst e
  exact I1.fpOk (Nat.le_refl _) (I1.hok.fresh (Nat.le_refl _))
theorem pi_tup {l : Expr} {tl : TE} (hl : PE X l tl) : PI X tg l (iTup X.K tl) := by
  intro pins s σ H R I h
  refine thn (hl pins s σ H _ I h) λ v s1 ⟨x, H1, I1, r1, q1⟩ => ?_
  obtain ⟨a, e, ⟨xs, hq⟩, q⟩ := q1
  subst e
  cases r1
  obtain ⟨its, rv, p, hz⟩ := I1.tuple hq
  refine wpAny_pyIter_tuple (show s1.heap.IsTuple a its.toArray from p) ?_
  refine ⟨s1.heap.objs.size, [s1.heap.objs.size], _, _, H1, rfl, I1.kept (t' := s1.toks) λ b o e => Heap.get?_push_of_some _ e, turn_tuple a _, ⟨_, Heap.get?_push_size _ rfl, rfl, rfl⟩, λ b hb => ?_, q⟩
  have e : b = s1.heap.objs.size := by simpa using hb
  subst e
  exact I1.fpOk (Nat.le_refl _) (I1.hok.fresh (Nat.le_refl _))
theorem range_it {pins : List (Addr × Obj)} {σ : St} {H : Hp} {s : Shared} {R : It -> Hp -> Prop} {E : Value -> Shared -> Prop} {lo hi : Int} {t u v : Tok} {tk : Nat} (I : Inv X pins σ H s) (h1 : -(2 ^ 62) <= lo) (h2 : lo < 2 ^ 62) (h3 : -(2 ^ 62) <= hi) (h4 : hi < 2 ^ 62)
    (q : R (Itr lo (hi - lo).toNat) H) : wpAny (model X.prog X.w) X.A (pyIter (.ref s.heap.objs.size)) (PIE X pins σ tg R) E { s with heap := s.heap.push { cls := .type "range", data := .fields #[.int lo t, .int hi u, .int 1 v] }, toks := tk } := by
  refine wpAny_pyIter_range (IsRange.new ..) (small_one h1 h2 h3 h4) ?_
  have I1 : Inv X pins σ H { s with heap := s.heap.push { cls := .type "range", data := .fields #[.int lo t, .int hi u, .int 1 v] }, toks := tk } := I.kept λ b o e => Heap.get?_push_of_some _ e
  refine ⟨(s.heap.push { cls := .type "range", data := .fields #[.int lo t, .int hi u, .int 1 v] }).objs.size, [(s.heap.push { cls := .type "range", data := .fields #[.int lo t, .int hi u, .int 1 v] }).objs.size], _, _, H, rfl,
    I1.kept (t' := tk) λ b o e => Heap.get?_push_of_some _ e, turn_range _ lo (hi - lo).toNat, ?_, λ b hb => ?_, q⟩
  . have e1 : lo + ((0 : Nat) : Int) * 1 = lo := by simp
    have e2 : (((hi - lo).toNat : Nat) : Int) - ((0 : Nat) : Int) = Builtin.Range.rangeSize lo hi 1 := by rw [rangeSize_one]; split <;> omega
    show IsRangeIter _ _ (lo + ((0 : Nat) : Int) * 1) ((((hi - lo).toNat : Nat) : Int) - ((0 : Nat) : Int)) 1
    rw [e1, e2]
    exact Heap.get?_push_size _ rfl
  . have e : b = (s.heap.push { cls := .type "range", data := .fields #[.int lo t, .int hi u, .int 1 v] }).objs.size := by simpa using hb
    subst e
    exact I1.fpOk (Nat.le_refl _) (I1.hok.fresh (Nat.le_refl _))
def iRng1 (ta : TA) : TI := λ σ H R => ta σ H λ vs H1 => ∃ j : Int, vs = [.int j] /\ -(2 ^ 62) <= j /\ j < 2 ^ 62 /\ R (Itr 0 j.toNat) H1
theorem pi_range1 {a : Expr} {ta : TA} {p pos : Pos} (hg : Gl X "range") (hm : X.mg "range" = none) (ha : PA X [a] ta) (hs : starEach [a] X.env = [(false, eval a X.env)] := by rfl) : PI X tg (.Call (.Name "range" p) [a] [] pos) (iRng1 ta) := by
  intro pins s σ H R I h
  refine Call_ (ld_blt I hg hm boot_range (PyProof.Rows.callWith_type1 (thn (ha pos pins s σ H _ I h) λ us s1 ⟨vs, H1, I1, r1, q1⟩ => ?_) hs rfl))
  obtain ⟨j, e, q1, q2, q⟩ := q1
  subst e
  cases r1 with
  | cons r rr =>
    cases rr
    obtain ⟨t, rfl⟩ := r
    exact call_range_1 (range_it I1 (by omega) (by omega) q1 q2 (by simpa using q))
def tFor (wi : TI) (g : TG) (tb : TS) : TS := λ D σ H => wi σ H λ J H1 => ∃ W : Nat -> Nat -> St -> Hp -> Prop, (∃ m, W 0 m σ H1) /\ ∀ i m σ H, W i m σ H ->
  (J.stop i H /\ D.nx σ H) ∨ (J.go i H /\ ∃ N : St -> Hp -> Prop, (∀ σ' H', N σ' H' -> ∃ m', m' < m /\ W (i + 1) m' σ' H') /\ ∀ x H', J.yld i H x H' -> g x σ H' λ σ2 H2 => tb { D with nx := N, ct := N, bk := D.nx } σ2 H2)
def pinsAt (fp : List Addr) (h : Heap) : List (Addr × Obj) := fp.filterMap λ b => (h.get? b).map λ o => (b, o)
theorem mem_pinsAt {fp : List Addr} {h : Heap} {b : Addr} {o : Obj} (hb : b ∈ fp) (e : h.get? b = some o) : (b, o) ∈ pinsAt fp h := List.mem_filterMap.mpr ⟨b, hb, by rw [e]; rfl⟩
theorem of_pinsAt {fp : List Addr} {h : Heap} {p : Addr × Obj} (hp : p ∈ pinsAt fp h) : p.1 ∈ fp /\ h.get? p.1 = some p.2 := by
  obtain ⟨b, hb, e⟩ := List.mem_filterMap.mp hp
  cases q : h.get? b with
  | none => rw [q] at e; cases e
  | some o =>
    rw [q] at e
    have e' : (b, o) = p := Option.some.inj e
    subst e'
    exact ⟨hb, q⟩
theorem Inv.pinned {pins : List (Addr × Obj)} {σ : St} {H : Hp} {s : Shared} {fp : List Addr} (I : Inv X pins σ H s) (hf : ∀ b ∈ fp, FpOk X pins H b) (ho : ∀ b ∈ fp, ∃ o, s.heap.get? b = some o /\ ∀ v, o.data ≠ .cell v) : Inv X (pins ++ pinsAt fp s.heap) σ H s :=
  I.pins_of λ p hp => (List.mem_append.mp hp).elim (λ z => I.pin p (List.mem_append_right _ z)) λ z => by
    obtain ⟨hb, e⟩ := of_pinsAt z
    obtain ⟨f0, f1, f2, _⟩ := hf p.1 hb
    obtain ⟨o, e', d⟩ := ho p.1 hb
    rw [e] at e'; cases e'
    exact ⟨e, f0, f1, f2, d⟩
theorem Inv.unpinned {pins pl : List (Addr × Obj)} {σ : St} {H : Hp} {s : Shared} (I : Inv X (pins ++ pl) σ H s) : Inv X pins σ H s := I.pins_of λ p hp => I.pin p (List.mem_append_right _ (List.mem_append_left _ hp))
theorem ps_for {iter : Expr} {body : List Stmt} {wi : TI} {g : TG} {tb : TS} {pos : Pos} (hp : PassesOwn (model X.prog X.w) X.A X.env X.xe) (hc : X.calm = true) (hi : PI X tg iter wi) (hg : PG X tg g) (hb : PSs X body tb)
    (hs : ∀ x, foldedSetIterable iter X.env x = pure x := by intro _; rfl) : PS X (.For tg iter body [] pos) (tFor wi g tb) := by
  intro pins s σ H D I h
  refine wpAny_For (thn (hi pins s σ H _ I h) λ v s1 h1 => thn h1 λ itv s2 h2 => ?_) hs
  obtain ⟨it, fp, tn, J, H2, e, I2, T, st2, f2, W, ⟨m0, w0⟩, turn⟩ := h2
  subst e
  -- what stays true of the iterator's objects through the loop
  have stat : ∀ {H' : Hp}, (∀ b ∈ fp, H' b = none) -> ∀ b ∈ fp, FpOk X pins H' b := λ hn b hb => ⟨hn b hb, (f2 b hb).2⟩
  refine codeAny_forLoop_any (λ n s' => ∃ i σ' H', Inv X pins σ' H' s' /\ tn i s'.heap /\ (∀ b ∈ fp, H' b = none) /\ W i n σ' H') ?_ m0 ⟨0, σ, H2, I2, st2, λ b hb => (f2 b hb).1, w0⟩
  rintro n s3 ⟨i, σ3, H3, I3, st3, fr3, w3⟩
  rcases turn i n σ3 H3 w3 with ⟨stop, qn⟩ | ⟨go, N, hN, step⟩
  . refine wpAny_passesOwn hp (thn (T.done X rfl rfl rfl hc i pins s3 σ3 H3 X.xe I3 (stat fr3) st3 stop) λ r s4 ⟨hr, I4⟩ => ?_)
    subst hr
    exact wpAny_execs_nil ⟨σ3, H3, I4, qn⟩
  . refine wpAny_passesOwn hp (thn (T.item X rfl rfl rfl hc i pins s3 σ3 H3 X.xe I3 (stat fr3) st3 go) λ r s4 ⟨u, hr, h4⟩ => ?_)
    subst hr
    refine wpAny_passesOwn hp (thn h4 λ _ s5 ⟨x, H5, I5, r5, y5, st5, fr5⟩ => ?_)
    have I5' := I5.pinned (stat fr5) (T.obj _ _ st5)
    refine wpAny_passesOwn hp (thn (hg _ s5 σ3 H5 x u _ I5' r5 (step x H5 y5)) λ _ s6 ⟨σ6, H6, I6, q6⟩ => ?_)
    refine wpAny_passesOwn hp (thn (hb _ s6 σ6 H6 _ I6 q6) λ f s7 q7 => ?_)
    have again : ∀ {σ7 : St} {H7 : Hp}, Inv X (pins ++ pinsAt fp s5.heap) σ7 H7 s7 -> N σ7 H7 -> ∃ m, m < n /\ ∃ i σ' H', Inv X pins σ' H' s7 /\ tn i s7.heap /\ (∀ b ∈ fp, H' b = none) /\ W i m σ' H' := λ {σ7 H7} I7 n7 => by
      obtain ⟨m', hm, w7⟩ := hN σ7 H7 n7
      refine ⟨m', hm, i + 1, σ7, H7, I7.unpinned, T.keep _ _ _ st5 λ b hb o e => (I7.pin (b, o) (List.mem_append_right _ (List.mem_append_right _ (mem_pinsAt hb e)))).1, λ b hb => ?_, w7⟩
      obtain ⟨o, e, d⟩ := T.obj _ _ st5 b hb
      exact (I7.pin (b, o) (List.mem_append_right _ (List.mem_append_right _ (mem_pinsAt hb e)))).2.1
    cases f with
    | next => obtain ⟨σ7, H7, I7, n7⟩ := q7; exact again I7 n7
    | cont => obtain ⟨σ7, H7, I7, n7⟩ := q7; exact again I7 n7
    | brk => obtain ⟨σ7, H7, I7, q7⟩ := q7; exact ⟨σ7, H7, I7.unpinned, q7⟩
    | ret v => obtain ⟨x7, σ7, H7, I7, r7, q7⟩ := q7; exact ⟨x7, σ7, H7, I7.unpinned, r7, q7⟩
end
end L2
namespace L2
open PySem PySem.Spec PyProof.Rows
abbrev R2 := V -> V -> Hp -> VK -> Prop
def OpR (X : Cx) (f : Value -> Value -> Sem Value) (r : R2) : Prop :=
  ∀ (pins : List (Addr × Obj)) (s : Shared) (σ : St) (H : Hp) (x y : V) (v u : Value) (Q : VK), Inv X pins σ H s -> RelV x v -> RelV y u -> r x y H Q ->
    wpAny (model X.prog X.w) X.A (f v u) (EP X pins σ Q) X.xe s
def UnR (X : Cx) (f : Value -> Sem Value) (r : V -> Hp -> VK -> Prop) : Prop :=
  ∀ (pins : List (Addr × Obj)) (s : Shared) (σ : St) (H : Hp) (x : V) (v : Value) (Q : VK), Inv X pins σ H s -> RelV x v -> r x H Q ->
    wpAny (model X.prog X.w) X.A (f v) (EP X pins σ Q) X.xe s
def CallR (X : Cx) (f : Value) (r : List V -> Hp -> VK -> Prop) : Prop :=
  ∀ (pins : List (Addr × Obj)) (s : Shared) (σ : St) (H : Hp) (xs : List V) (us : List Value) (Q : VK), Inv X pins σ H s -> Vals xs us -> r xs H Q ->
    wpAny (model X.prog X.w) X.A (call f us) (EP X pins σ Q) X.xe s
def TruR (X : Cx) (r : V -> Hp -> (Bool -> Hp -> Prop) -> Prop) : Prop :=
  ∀ (pins : List (Addr × Obj)) (s : Shared) (σ : St) (H : Hp) (x : V) (v : Value) (Q : Bool -> Hp -> Prop), Inv X pins σ H s -> RelV x v -> r x H Q ->
    wpAny (model X.prog X.w) X.A (truthy v) (TP X pins σ Q) X.xe s
def tOp (r : R2) (ta tb : TE) : TE := λ σ H Q => ta σ H λ x H1 => tb σ H1 λ y H2 => r x y H2 Q
def tUn (r : V -> Hp -> VK -> Prop) (ta : TE) : TE := λ σ H Q => ta σ H λ x H1 => r x H1 Q
def rI (C : Int -> Int -> Prop) (g : Int -> Int -> V) : R2 := λ x y H Q => ∃ i j, x = .int i /\ y = .int j /\ C i j /\ Q (g i j) H
def rI0 (g : Int -> Int -> V) : R2 := λ x y H Q => ∃ i j, x = .int i /\ y = .int j /\ Q (g i j) H
def rU (g : Int -> V) : V -> Hp -> VK -> Prop := λ x H Q => ∃ i, x = .int i /\ Q (g i) H
section
variable {X : Cx} {a b c : Expr} {ta tb tc : TE} {pos : Pos}
theorem binT (ha : PE X a ta) (hb : PE X b tb) {pins : List (Addr × Obj)} {s : Shared} {σ : St} {H : Hp} {R : V -> V -> Hp -> Prop} (I : Inv X pins σ H s)
    (h : ta σ H λ x H1 => tb σ H1 λ y H2 => R x y H2) {Q : Value -> Shared -> Prop} {f : Value -> Value -> Sem Value}
    (hf : ∀ v u s2 x y H2, Inv X pins σ H2 s2 -> RelV x v -> RelV y u -> R x y H2 -> wpAny (model X.prog X.w) X.A (f v u) Q X.xe s2) :
    wpAny (model X.prog X.w) X.A (eval a X.env) (λ v s₁ => wpAny (model X.prog X.w) X.A (eval b X.env) (λ u s₂ => wpAny (model X.prog X.w) X.A (f v u) Q X.xe s₂) X.xe s₁) X.xe s := by
  refine thn (ha pins s σ H _ I h) λ v s1 ⟨x, H1, I1, r1, q1⟩ => ?_
  refine thn (hb pins s1 σ H1 _ I1 q1) λ u s2 ⟨y, H2, I2, r2, q2⟩ => ?_
  exact hf v u s2 x y H2 I2 r1 r2 q2
theorem pe_op {op : Operator} {r : R2} (ho : OpR X (binaryOp op) r) (ha : PE X a ta) (hb : PE X b tb) : PE X (.BinOp a op b pos) (tOp r ta tb) := by
  intro pins s σ H Q I h
  exact wpAny_BinOp (binT ha hb I h λ v u s2 x y H2 I2 rx ry q => ho pins s2 σ H2 x y v u Q I2 rx ry q)
theorem pe_un {op : UnaryOp} {r : V -> Hp -> VK -> Prop} (ho : UnR X (unaryOp op) r) (ha : PE X a ta) : PE X (.UnaryOp op a pos) (tUn r ta) := by
  intro pins s σ H Q I h
  exact UnaryOp_ (thn (ha pins s σ H _ I h) λ v s1 ⟨x, H1, I1, r1, q1⟩ => ho pins s1 σ H1 x v Q I1 r1 q1)
theorem opI {f : Value -> Value -> Sem Value} {C : Int -> Int -> Prop} {g : Int -> Int -> Int}
    (rule : ∀ (i j : Int) (t u : Tok) (s : Shared) (Q : Value -> Shared -> Prop) (E : Value -> Shared -> Prop), C i j -> Q (.int (g i j) s.toks) { s with toks := s.toks + 1 } -> wpAny (model X.prog X.w) X.A (f (.int i t) (.int j u)) Q E s) :
    OpR X f (rI C λ i j => .int (g i j)) := by
  intro pins s σ H x y v u Q I rx ry h
  obtain ⟨i, j, rfl, rfl, hc, q⟩ := h
  obtain ⟨t, rfl⟩ := rx
  obtain ⟨t', rfl⟩ := ry
  exact rule i j t t' s _ _ hc ⟨.int (g i j), H, I.tok _, ⟨_, rfl⟩, q⟩
theorem opI0 {f : Value -> Value -> Sem Value} {g : Int -> Int -> Int}
    (rule : ∀ (i j : Int) (t u : Tok) (s : Shared) (Q : Value -> Shared -> Prop) (E : Value -> Shared -> Prop), Q (.int (g i j) s.toks) { s with toks := s.toks + 1 } -> wpAny (model X.prog X.w) X.A (f (.int i t) (.int j u)) Q E s) :
    OpR X f (rI0 λ i j => .int (g i j)) := by
  intro pins s σ H x y v u Q I rx ry h
  obtain ⟨i, j, rfl, rfl, q⟩ := h
  obtain ⟨t, rfl⟩ := rx
  obtain ⟨t', rfl⟩ := ry
  exact rule i j t t' s _ _ ⟨.int (g i j), H, I.tok _, ⟨_, rfl⟩, q⟩
theorem opB0 {f : Value -> Value -> Sem Value} {g : Int -> Int -> Bool}
    (rule : ∀ (i j : Int) (t u : Tok) (s : Shared) (Q : Value -> Shared -> Prop) (E : Value -> Shared -> Prop), Q (.bool (g i j)) s -> wpAny (model X.prog X.w) X.A (f (.int i t) (.int j u)) Q E s) :
    OpR X f (rI0 λ i j => .bl (g i j)) := by
  intro pins s σ H x y v u Q I rx ry h
  obtain ⟨i, j, rfl, rfl, q⟩ := h
  obtain ⟨t, rfl⟩ := rx
  obtain ⟨t', rfl⟩ := ry
  exact rule i j t t' s _ _ ⟨.bl (g i j), H, I, rfl, q⟩
def CDiv (i j : Int) : Prop := 0 < j /\ j < 1073741824
def CPow (i j : Int) : Prop := 0 <= j /\ j <= 1000000 /\ i.natAbs < 2 ^ 64
def CMul (i j : Int) : Prop := (-(2 ^ 64) < i /\ i < 2 ^ 64) ∨ (-(2 ^ 64) < j /\ j < 2 ^ 64)
theorem CMul.ok {i j : Int} (h : CMul i j) : IntMulOk i j := by
  rcases h with ⟨h1, h2⟩ | ⟨h1, h2⟩
  . exact .of_left (intBits_le_64 h1 h2)
  . exact .of_right (intBits_le_64 h1 h2)
theorem op_add : OpR X (binaryOp .Add) (rI0 λ i j => .int (i + j)) := opI0 λ _ _ _ _ _ _ _ q => add_int q
theorem op_sub : OpR X (binaryOp .Sub) (rI0 λ i j => .int (i - j)) := opI0 λ _ _ _ _ _ _ _ q => sub_int q
theorem op_mul : OpR X (binaryOp .Mult) (rI CMul λ i j => .int (i * j)) := opI λ _ _ _ _ _ _ _ hc q => mul_int q hc.ok
theorem op_fdiv : OpR X (binaryOp .FloorDiv) (rI CDiv λ i j => .int (i / j)) := opI λ i j _ _ _ _ _ hc q => by
  have h1 : (0 : Int) < j := hc.1
  have h2 : j < 1073741824 := hc.2
  exact floordiv_int (by omega) (by rw [Int.fdiv_eq_ediv_of_nonneg i (by omega)]; exact q) (.inl (PyProof.noPylong_small (by omega)))
theorem op_mod : OpR X (binaryOp .Mod) (rI (λ _ j => 0 < j) λ i j => .int (i % j)) := opI λ i j _ _ _ _ _ hc q => by
  have h1 : (0 : Int) < j := hc
  exact mod_int' (by omega) (by rw [Int.fmod_eq_emod_of_nonneg i (by omega)]; exact q)
theorem op_pow : OpR X (binaryOp .Pow) (rI CPow λ i j => .int (i ^ j.toNat)) := opI λ _ _ _ _ _ _ _ hc q => pow_int_small hc.1 hc.2.1 hc.2.2 q
theorem unI {f : Value -> Sem Value} {g : Int -> Int}
    (rule : ∀ (i : Int) (t : Tok) (s : Shared) (Q : Value -> Shared -> Prop) (E : Value -> Shared -> Prop), Q (.int (g i) s.toks) { s with toks := s.toks + 1 } -> wpAny (model X.prog X.w) X.A (f (.int i t)) Q E s) :
    UnR X f (rU λ i => .int (g i)) := by
  intro pins s σ H x v Q I rx h
  obtain ⟨i, rfl, q⟩ := h
  obtain ⟨t, rfl⟩ := rx
  exact rule i t s _ _ ⟨.int (g i), H, I.tok _, ⟨_, rfl⟩, q⟩
theorem un_neg : UnR X (unaryOp .USub) (rU λ i => .int (-i)) := unI λ _ _ _ _ _ q => neg_int q
end
def scal : V -> V -> Bool
  | .non, .non => true | .non, .int _ => true | .int _, .non => true | .non, .bl _ => true | .bl _, .non => true | .non, .str _ => true | .str _, .non => true
  | .int _, .int _ => true | .bl _, .bl _ => true | .str _, .str _ => true | .byt _, .byt _ => true
  | .int _, .str _ => true | .str _, .int _ => true | .bl _, .str _ => true | .str _, .bl _ => true
  | _, _ => false
def rEq : R2 := λ x y H Q => scal x y = true /\ Q (.bl (decide (x = y))) H
def rNe : R2 := λ x y H Q => scal x y = true /\ Q (.bl (!decide (x = y))) H
theorem dec_int {i j : Int} : decide (V.int i = V.int j) = (i == j) := by
  rw [Bool.eq_iff_iff]
  simp
theorem dec_bl {i j : Bool} : decide (V.bl i = V.bl j) = (i == j) := by
  rw [Bool.eq_iff_iff]
  simp
theorem dec_str {i j : Str} : decide (V.str i = V.str j) = (i == j) := by
  rw [Bool.eq_iff_iff]
  simp
theorem dec_byt {i j : Array UInt8} : decide (V.byt i = V.byt j) = (i.toList == j.toList) := by
  rw [Bool.eq_iff_iff]
  cases i
  cases j
  simp
section
variable {X : Cx} {a b c : Expr} {ta tb tc : TE} {pos : Pos}
theorem fin_bl {pins : List (Addr × Obj)} {σ : St} {H : Hp} {s : Shared} {Q : VK} {k k' : Bool} (I : Inv X pins σ H s) (q : Q (.bl k) H) (e : k = k') : EP X pins σ Q (.bool k') s := by
  subst e
  exact ⟨.bl k, H, I, rfl, q⟩
theorem op_eq : OpR X (compareOp .Eq) rEq := by
  intro pins s σ H x y v u Q I rx ry h
  obtain ⟨hs, q⟩ := h
  cases x with
  | non =>
    cases rx
    cases y with
    | non => cases ry; exact PySem.EqNone.eq_none_none (fin_bl I q (by simp))
    | bl j => cases ry; exact PySem.EqNone.eq_none_bool (fin_bl I q (by simp))
    | int j => obtain ⟨t', rfl⟩ := ry; exact PySem.EqNone.eq_none_int (fin_bl I q (by simp))
    | str j => obtain ⟨t', rfl⟩ := ry; exact PySem.EqNone.eq_none_str (fin_bl I q (by simp))
    | _ => exact absurd (show false = true from hs) Bool.false_ne_true
  | bl i =>
    cases rx
    cases y with
    | non => cases ry; exact PySem.EqNone.eq_bool_none (fin_bl I q (by simp))
    | bl j => cases ry; exact eq_bool (fin_bl I q dec_bl)
    | str j => obtain ⟨t', rfl⟩ := ry; exact PySem.EqMixed.eq_bool_str (fin_bl I q (by simp))
    | _ => exact absurd (show false = true from hs) Bool.false_ne_true
  | int i =>
    obtain ⟨t, rfl⟩ := rx
    cases y with
    | non => cases ry; exact PySem.EqNone.eq_int_none (fin_bl I q (by simp))
    | int j => obtain ⟨t', rfl⟩ := ry; exact eq_int (fin_bl I q dec_int)
    | str j => obtain ⟨t', rfl⟩ := ry; exact PySem.EqMixed.eq_int_str (fin_bl I q (by simp))
    | _ => exact absurd (show false = true from hs) Bool.false_ne_true
  | str i =>
    obtain ⟨t, rfl⟩ := rx
    cases y with
    | non => cases ry; exact PySem.EqNone.eq_str_none (fin_bl I q (by simp))
    | bl j => cases ry; exact PySem.EqMixed.eq_str_bool (fin_bl I q (by simp))
    | int j => obtain ⟨t', rfl⟩ := ry; exact PySem.EqMixed.eq_str_int (fin_bl I q (by simp))
    | str j => obtain ⟨t', rfl⟩ := ry; exact eq_str (fin_bl I q dec_str)
    | _ => exact absurd (show false = true from hs) Bool.false_ne_true
  | byt i =>
    obtain ⟨t, rfl⟩ := rx
    cases y with
    | byt j => obtain ⟨t', rfl⟩ := ry; exact PySem.W.eq_bytes (fin_bl I q dec_byt)
    | _ => exact absurd (show false = true from hs) Bool.false_ne_true
  | _ => cases y <;> exact absurd (show false = true from hs) Bool.false_ne_true
theorem op_ne : OpR X (compareOp .NotEq) rNe := by
  intro pins s σ H x y v u Q I rx ry h
  obtain ⟨hs, q⟩ := h
  cases x with
  | non =>
    cases rx
    cases y with
    | non => cases ry; exact PySem.EqNone.ne_none_none (fin_bl I q (by simp))
    | bl j => cases ry; exact PySem.EqNone.ne_none_bool (fin_bl I q (by simp))
    | int j => obtain ⟨t', rfl⟩ := ry; exact PySem.EqNone.ne_none_int (fin_bl I q (by simp))
    | str j => obtain ⟨t', rfl⟩ := ry; exact PySem.EqNone.ne_none_str (fin_bl I q (by simp))
    | _ => exact absurd (show false = true from hs) Bool.false_ne_true
  | bl i =>
    cases rx
    cases y with
    | non => cases ry; exact PySem.EqNone.ne_bool_none (fin_bl I q (by simp))
    | bl j => cases ry; exact ne_bool (fin_bl I q (congrArg not dec_bl))
    | str j => obtain ⟨t', rfl⟩ := ry; exact PySem.EqMixed.ne_bool_str (fin_bl I q (by simp))
    | _ => exact absurd (show false = true from hs) Bool.false_ne_true
  | int i =>
    obtain ⟨t, rfl⟩ := rx
    cases y with
    | non => cases ry; exact PySem.EqNone.ne_int_none (fin_bl I q (by simp))
    | int j => obtain ⟨t', rfl⟩ := ry; exact ne_int (fin_bl I q (congrArg not dec_int))
    | str j => obtain ⟨t', rfl⟩ := ry; exact PySem.EqMixed.ne_int_str (fin_bl I q (by simp))
    | _ => exact absurd (show false = true from hs) Bool.false_ne_true
  | str i =>
    obtain ⟨t, rfl⟩ := rx
    cases y with
    | non => cases ry; exact PySem.EqNone.ne_str_none (fin_bl I q (by simp))
    | bl j => cases ry; exact PySem.EqMixed.ne_str_bool (fin_bl I q (by simp))
    | int j => obtain ⟨t', rfl⟩ := ry; exact PySem.EqMixed.ne_str_int (fin_bl I q (by simp))
    | str j => obtain ⟨t', rfl⟩ := ry; exact ne_str (fin_bl I q (congrArg not dec_str))
    | _ => exact absurd (show false = true from hs) Bool.false_ne_true
  | byt i =>
    obtain ⟨t, rfl⟩ := rx
    cases y with
    | byt j => obtain ⟨t', rfl⟩ := ry; exact PySem.W.ne_bytes (fin_bl I q (congrArg not dec_byt))
    | _ => exact absurd (show false = true from hs) Bool.false_ne_true
  | _ => cases y <;> exact absurd (show false = true from hs) Bool.false_ne_true
theorem op_lt : OpR X (compareOp .Lt) (rI0 λ i j => .bl (decide (i < j))) := opB0 λ _ _ _ _ _ _ _ q => lt_int q
theorem op_le : OpR X (compareOp .LtE) (rI0 λ i j => .bl (decide (i <= j))) := opB0 λ _ _ _ _ _ _ _ q => le_int q
theorem op_gt : OpR X (compareOp .Gt) (rI0 λ i j => .bl (decide (j < i))) := opB0 λ _ _ _ _ _ _ _ q => gt_int q
theorem op_ge : OpR X (compareOp .GtE) (rI0 λ i j => .bl (decide (j <= i))) := opB0 λ _ _ _ _ _ _ _ q => ge_int q
theorem OpR.or {f : Value -> Value -> Sem Value} {r r' : R2} (h : OpR X f r) (h' : OpR X f r') : OpR X f (λ x y H Q => r x y H Q ∨ r' x y H Q) := by
  intro pins s σ H x y v u Q I rx ry q
  rcases q with q | q
  . exact h pins s σ H x y v u Q I rx ry q
  . exact h' pins s σ H x y v u Q I rx ry q
theorem nomark (b : Expr) {op : CmpOp} (h : op ≠ .In := by decide) (h2 : op ≠ .NotIn := by decide) : behindInMarks op b = false := by
  have e1 : (op == CmpOp.In) = false := by cases op <;> first | rfl | exact absurd rfl h
  have e2 : (op == CmpOp.NotIn) = false := by cases op <;> first | rfl | exact absurd rfl h2
  cases b <;> simp [behindInMarks, e1, e2]
theorem pe_cmpR {op : CmpOp} {r : R2} (ho : OpR X (compareOp op) r) (ha : PE X a ta) (hb : PE X b tb) (hm : behindInMarks op b = false) : PE X (.Compare a [op] [b] pos) (tOp r ta tb) := by
  intro pins s σ H Q I h
  exact wpAny_Compare1 (binT ha hb I h λ v u s2 x y H2 I2 rx ry q => ho pins s2 σ H2 x y v u Q I2 rx ry q) hm
def tTest (t : TE) : TT := λ σ H Q => t σ H λ x H' => ∃ k, x = .bl k /\ Q k H'
theorem pt_cmpR {op : CmpOp} {r : R2} (ho : OpR X (compareOp op) r) (ha : PE X a ta) (hb : PE X b tb) (hm : behindInMarks op b = false) : PT X (.Compare a [op] [b] pos) (tTest (tOp r ta tb)) := by
  intro pins s σ H Q I h
  refine wpAny_isTrue_Compare1 (thn (ha pins s σ H _ I h) λ v s1 ⟨x, H1, I1, r1, q1⟩ => thn (hb pins s1 σ H1 _ I1 q1) λ u s2 ⟨y, H2, I2, r2, q2⟩ =>
    thn (ho pins s2 σ H2 x y v u _ I2 r1 r2 q2) λ c s3 ⟨z, H3, I3, r3, k, e, q3⟩ => ?_) hm
  subst e
  cases r3
  exact wpAny_truthy_bool ⟨H3, I3, q3⟩
def TruV (K : PySem.W.Frag) (x : V) (H : Hp) (k : Bool) : Prop :=
  match x with
  | .non => k = false
  | .bl b => k = b
  | .int i => k = (i != 0)
  | .str y => y.length <= sizeLine /\ k = ((y.length : Int) != 0)
  | .byt y => y.size <= sizeLine /\ k = ((y.size : Int) != 0)
  | .ref p => (∃ xs, SqL K H p xs /\ k = !xs.isEmpty) ∨ (∃ xs, SqT K H p xs /\ k = !xs.isEmpty) ∨ ∃ kvs, H p = some (.dK kvs) /\ k = !kvs.isEmpty
  | _ => False
theorem isEmpty_kv {κ : Type} {kvs : List (κ × V)} {vs : List (κ × Value)} (r : KV kvs vs) : (!vs.isEmpty) = !kvs.isEmpty := by
  cases r <;> rfl
theorem isEmpty_of {xs : List V} {its : List Value} (r : Vals xs its) : (!its.toArray.isEmpty) = !xs.isEmpty := by
  cases r <;> simp
theorem line63 : (sizeLine : Nat) < 2 ^ 63 := by rw [sizeLine_eq]; decide
theorem tru_ok : TruR X (λ x H Q => ∃ k, TruV X.K x H k /\ Q k H) := by
  intro pins s σ H x v Q I rx h
  obtain ⟨k, e, q⟩ := h
  have hl := line63
  have hs : sizeLine = 16777216 := sizeLine_eq
  cases x with
  | non =>
    cases rx
    have e' : k = false := e
    subst e'
    exact truthy_none ⟨H, I, q⟩
  | bl b =>
    cases rx
    have e' : k = b := e
    subst e'
    exact wpAny_truthy_bool ⟨H, I, q⟩
  | int i =>
    obtain ⟨t, rfl⟩ := rx
    have e' : k = (i != 0) := e
    subst e'
    exact PySem.P.truthy_int ⟨H, I, q⟩
  | str y =>
    obtain ⟨t, rfl⟩ := rx
    obtain ⟨hy, e'⟩ : y.length <= sizeLine /\ k = ((y.length : Int) != 0) := e
    subst e'
    exact PySem.P.truthy_str (by omega) ⟨H, I.tok _, q⟩
  | byt y =>
    obtain ⟨t, rfl⟩ := rx
    obtain ⟨hy, e'⟩ : y.size <= sizeLine /\ k = ((y.size : Int) != 0) := e
    subst e'
    exact PySem.W.truthy_bytes (by omega) ⟨H, I.tok _, q⟩
  | ref p =>
    cases rx
    have e' : (∃ xs, SqL X.K H p xs /\ k = !xs.isEmpty) ∨ (∃ xs, SqT X.K H p xs /\ k = !xs.isEmpty) ∨ ∃ kvs, H p = some (.dK kvs) /\ k = !kvs.isEmpty := e
    rcases e' with ⟨xs, hx, e'⟩ | ⟨xs, hx, e'⟩ | ⟨kvs, hx, e'⟩
    . subst e'
      obtain ⟨its, r, pl, hz⟩ := I.list hx
      have hlen := r.length
      exact wpAny_truthy_list pl.isList (by simp only [List.size_toArray]; omega) ⟨H, I.tok _, by rw [isEmpty_of r]; exact q⟩
    . subst e'
      obtain ⟨its, r, pl, hz⟩ := I.tuple hx
      have hlen := r.length
      exact truthy_tuple pl (by simp only [List.size_toArray]; omega) ⟨H, I.tok _, by rw [isEmpty_of r]; exact q⟩
    . subst e'
      obtain ⟨hz, hS, vs, r, m⟩ : kvs.length <= sizeLine /\ (p == sysModules) = false /\ ∃ vs, KV kvs vs /\ s.heap.DictOf (mixKind X.prog X.w) p vs := I.hok p _ hx
      have hlen : kvs.length = vs.length := Paired.length r
      exact wpAny_truthy_dict hS m (by omega) ⟨H, I.tok _, by rw [isEmpty_kv r]; exact q⟩
  | _ => exact (show False from e).elim
theorem pt_truth (ha : PE X a ta) (he : ∀ whole, isTrue a X.env whole = (do let v <- whole; standAt a.pos; holding [v] (truthy v))) :
    PT X a (λ σ H Q => ta σ H λ x H' => ∃ k, TruV X.K x H' k /\ Q k H') := by
  intro pins s σ H Q I h
  exact isTrue_plain (thn (ha pins s σ H _ I h) λ v s1 ⟨x, H1, I1, r1, q1⟩ => tru_ok pins s1 σ H1 x v Q I1 r1 q1) (he _)
theorem vals1 {x : V} {us : List Value} (r : Vals [x] us) : ∃ u, us = [u] /\ RelV x u := by
  cases r with
  | cons r1 r2 => cases r2; exact ⟨_, rfl, r1⟩
theorem vals2 {x y : V} {us : List Value} (r : Vals [x, y] us) : ∃ u w', us = [u, w'] /\ RelV x u /\ RelV y w' := by
  cases r with
  | cons r1 r2 =>
    cases r2 with
    | cons r3 r4 => cases r4; exact ⟨_, _, rfl, r1, r3⟩
end
end L2
namespace L2
open PySem PySem.Spec PyProof.Rows
section
variable {prog : Program} {w : World} {A : Around} {E : Value -> Shared -> Prop} {s : Shared} {K : PySem.W.Frag} {x dx C f : Addr} {mA : Str -> Option Value} {name : Str} {v : Value}
end
theorem RelO.some_of {v : V} {o : Option Value} (r : RelO (some v) o) : ∃ u, o = some u /\ RelV v u := by
  cases o with
  | none => exact (show False from r).elim
  | some u => exact ⟨u, rfl, r⟩
section
variable {P : Program} {w : World} {H H' : Hp} {h h' : Heap} {a C dx : Addr} {fs fs' : List (Str × V)}
end
section
variable {X : Cx} {pins : List (Addr × Obj)} {σ : St} {H : Hp} {s : Shared} {a C dx : Addr} {fs : List (Str × V)} {f : Str} {v : V} {A : Around} {E : Value -> Shared -> Prop}
theorem Inv.made (I : Inv X pins σ H s) : Inv X pins σ (upd (upd H s.heap.objs.size (.own (s.heap.objs.size + 1))) (s.heap.objs.size + 1) (.ins C s.heap.objs.size []))
    { s with heap := (s.heap.push PySem.W.emptyDict).push (PySem.W.instObj C s.heap.objs.size) } := by
  have e1 : (s.heap.push PySem.W.emptyDict).get? s.heap.objs.size = some PySem.W.emptyDict := Heap.get?_push_size s.heap rfl
  have e2 : ((s.heap.push PySem.W.emptyDict).push (PySem.W.instObj C s.heap.objs.size)).get? (s.heap.objs.size + 1) = some (PySem.W.instObj C s.heap.objs.size) := by
    have := Heap.get?_push_size (s.heap.push PySem.W.emptyDict) (o := PySem.W.instObj C s.heap.objs.size) rfl
    rwa [Heap.size_push] at this
  have e3 : (s.heap.push PySem.W.emptyDict).Ns s.heap.objs.size (λ _ => none) := ⟨PySem.W.emptyDict, #[], _, e1, rfl, (λ e he => absurd he (by simp)), λ _ => rfl⟩
  have I1 := I.laid (a := s.heap.objs.size) (o := .own (s.heap.objs.size + 1)) (h' := s.heap.push PySem.W.emptyDict) (t' := s.toks) (λ b u q => Heap.get?_push_of_some _ q) (Nat.le_refl _) ⟨_, e1⟩
  refine I1.laid (a := s.heap.objs.size + 1) (o := .ins C s.heap.objs.size []) (t' := s.toks) (λ b u q => Heap.get?_push_of_some _ q) (Nat.le_of_eq (Heap.size_push _ _)) ?_
  have ne : s.heap.objs.size ≠ s.heap.objs.size + 1 := Nat.ne_of_lt (Nat.lt_succ_self _)
  refine ⟨by rw [upd_ne ne, upd_same], Nat.zero_le _, ne, e2, λ _ => none, (Heap.Ns1.of_empty e3).at λ o q => Heap.get?_push_of_some _ q, λ _ => True.intro, λ y hy => absurd rfl hy⟩
end
section
variable {X : Cx} {o e value : Expr} {f : Str} {pos pos' tpos : Pos} {ta tv : TE}
end
section
variable {X : Cx} {pins : List (Addr × Obj)} {σ : St} {H : Hp} {s : Shared} {A : Around} {E : Value -> Shared -> Prop} {Q : Value -> Shared -> Prop} {c : Value} {b : Bool}
end
end L2
namespace L2
open PySem PySem.Spec PyProof.Rows
structure Room (k : Nat) (A : Around) : Prop where
  hd : A.handled = none
  dp : A.depth + 3 * k + 5 < recursionLimit
  un : A.units + 16 * k + 200 < cLine
  gd : A.guards = some []
theorem Room.mono {j k : Nat} {A : Around} (r : Room k A) (h : j <= k) : Room j A := ⟨r.hd, by have := r.dp; omega, by have := r.un; omega, r.gd⟩
theorem Room.deeper {k : Nat} {A : Around} (r : Room (k + 1) A) (env : Env) : Room k (A.deeper env) :=
  ⟨r.hd, by have := r.dp; show A.depth + 1 + 3 * k + 5 < _; omega, by have := r.un; show A.units + 3 + 16 * k + 200 < _; omega, by first | exact r.gd | (simpa [Around.deeper, Around.under, Code.guards, Code.isGuard, pushGuards] using r.gd)⟩
theorem Room.in1 {k : Nat} {A : Around} (r : Room (k + 1) A) : Room k A.in1 :=
  ⟨r.hd, by have := r.dp; show A.depth + 3 * k + 5 < _; omega, by have := r.un; show A.units + 1 + 16 * k + 200 < _; omega, r.gd⟩
theorem Room.depth {k : Nat} {A : Around} (r : Room k A) : A.depth < recursionLimit := by have := r.dp; omega
theorem Room.units {k : Nat} {A : Around} (r : Room k A) : A.units + 64 < cLine := by have := r.un; omega
def tNil : TA := λ _ H Q => Q [] H
def tCons (ta : TE) (tr : TA) : TA := λ σ H Q => ta σ H λ x H1 => tr σ H1 λ xs H2 => Q (x :: xs) H2
section
variable {X : Cx} {e : Expr} {es : List Expr} {te : TE} {t : TA} {pos : Pos}
theorem pa_nil : PA X [] tNil := λ _ _ _ _ H Q I h => Calls.spliced_nil ⟨[], H, I, .nil, h⟩
theorem pa_cons (ha : PE X e te) (hr : PA X es t) (hs : starEach (e :: es) X.env = (false, eval e X.env) :: starEach es X.env := by rfl) : PA X (e :: es) (tCons te t) := by
  intro pos pins s σ H Q I h
  rw [hs]
  show wpAny _ _ (spliced ((false, eval e X.env) :: backTo pos (starEach es X.env))) _ _ s
  refine Calls.spliced_cons (thn (ha pins s σ H _ I h) λ u s1 ⟨x, H1, I1, r1, q1⟩ => ?_)
  exact thn (hr pos pins s1 σ H1 _ I1 q1) λ us s2 ⟨xs, H2, I2, r2, q2⟩ => ⟨x :: xs, H2, I2, .cons r1 r2, q2⟩
def tTup (t : TA) : TE := λ σ H Q => t σ H λ xs H1 => xs.length <= sizeLine /\ ∀ p, H1 p = none -> Q (.ref p) (upd H1 p (.tup xs))
def tLst (t : TA) : TE := λ σ H Q => t σ H λ xs H1 => xs.length <= sizeLine /\ ∀ p, H1 p = none -> Q (.ref p) (upd H1 p (.lst xs))
theorem pe_tup {x1} (h : PA X es t) : PE X (.Tuple es x1 pos) (tTup t) := by
  intro pins s σ H Q I hq
  refine wpAny_Tuple_spliced (thn (h pos pins s σ H _ I hq) λ us s1 ⟨xs, H1, I1, r, z, q⟩ => ⟨by rw [<- r.length]; exact z, ?_⟩)
  have hf : H1 s1.heap.objs.size = none := I1.hok.fresh (Nat.le_refl _)
  refine ⟨.ref s1.heap.objs.size, upd H1 s1.heap.objs.size (.tup xs), I1.laid (t' := s1.toks) (λ b u e => Heap.get?_push_of_some _ e) (Nat.le_refl _) ?_, rfl, q _ hf⟩
  exact ⟨z, us, r, ⟨_, Heap.get?_push_size _ rfl, rfl, _, rfl⟩⟩
theorem pe_lst (h : PA X es t) : PE X (.List es pos) (tLst t) := by
  intro pins s σ H Q I hq
  refine wpAny_List_spliced (thn (h pos pins s σ H _ I hq) λ us s1 ⟨xs, H1, I1, r, z, q⟩ => ⟨by rw [<- r.length]; exact z, ?_⟩)
  have hf : H1 s1.heap.objs.size = none := I1.hok.fresh (Nat.le_refl _)
  refine ⟨.ref s1.heap.objs.size, upd H1 s1.heap.objs.size (.lst xs), I1.laid (t' := s1.toks) (λ b u e => Heap.get?_push_of_some _ e) (Nat.le_refl _) ?_, rfl, q _ hf⟩
  exact ⟨z, us, 0, r, Heap.get?_push_size _ rfl⟩
end
abbrev Sp := List V -> Hp -> VK -> XK -> Prop
abbrev CXT := List Env -> Hp -> Shared -> XK -> Value -> Shared -> Prop
structure Env0 (P : Program) (w : World) (K : PySem.W.Frag) (mg : Str -> Option Value) (base : Heap) (A : Around) (outer : List Env) (s : Shared) (H : Hp) : Prop where
  frames : A.frames = some outer
  mod : Mod K mg base
  bs : ∀ b o, base.get? b = some o -> s.heap.get? b = some o /\ H b = none
  bsz : base.objs.size <= s.heap.objs.size
  funs : s.heap.FunFrames base outer
  frf : ∀ b ∈ frs outer, H b = none
  hok : HOk P w H s.heap
  bare : AllBare s.gens
def CE (outer : List Env) (P : Program) (w : World) (H : Hp) (s : Shared) (Q : VK) (u : Value) (s' : Shared) : Prop :=
  ∃ v H', s'.os = s.os /\ AllBare s'.gens /\ Un (frs outer) [] H H' s.heap s'.heap /\ HOk P w H' s'.heap /\ RelV v u /\ Q v H'
def CR (CX : CXT) (outer : List Env) (P : Program) (w : World) (H : Hp) (s : Shared) (Q : VK) (E : XK) (r : Result) (s' : Shared) : Prop :=
  match r with
  | .ok (.ret u) => CE outer P w H s Q u s'
  | .ok _ => False
  | .error e => CX outer H s E e s'
structure FnOk (P : Program) (w : World) (K : PySem.W.Frag) (mg : Str -> Option Value) (base : Heap) (CX : CXT) (k : Nat) (f : Addr) (fd : FuncData) (ps : List Str) (sp : Sp) : Prop where
  len : ∀ vs H Q E, sp vs H Q E -> vs.length = ps.length
  run : ∀ (A : Around) (outer : List Env) (s : Shared) (H : Hp) (args : Args) (us : List Value) (vs : List V) (Q : VK) (E : XK), Room k A -> Env0 P w K mg base A outer s H -> BindsTo s fd args (ps.zip us) -> Vals vs us -> sp vs H Q E ->
    codeAny (model P w) A (.call (.ref f) args) (CR CX outer P w H s Q E) s
theorem FnOk.mono {P : Program} {w : World} {K : PySem.W.Frag} {mg : Str -> Option Value} {base : Heap} {CX : CXT} {j k : Nat} {f : Addr} {fd : FuncData} {ps : List Str} {sp : Sp} (F : FnOk P w K mg base CX j f fd ps sp) (h : j <= k) :
    FnOk P w K mg base CX k f fd ps sp := ⟨F.len, λ A outer s H args us vs Q E hr => F.run A outer s H args us vs Q E (hr.mono h)⟩
theorem FnOk.imp {P : Program} {w : World} {K : PySem.W.Frag} {mg : Str -> Option Value} {base : Heap} {CX : CXT} {k : Nat} {f : Addr} {fd : FuncData} {ps : List Str} {sp sp' : Sp} (F : FnOk P w K mg base CX k f fd ps sp)
    (h : ∀ vs H Q E, sp' vs H Q E -> sp vs H Q E) : FnOk P w K mg base CX k f fd ps sp' :=
  ⟨λ vs H Q E q => F.len vs H Q E (h _ _ _ _ q), λ A outer s H args us vs Q E hr he hb hv hs => F.run A outer s H args us vs Q E hr he hb hv (h _ _ _ _ hs)⟩
section
variable {X : Cx} {pins : List (Addr × Obj)} {σ : St} {H : Hp} {s s' : Shared}
theorem Inv.env0 (I : Inv X pins σ H s) : Env0 X.prog X.w X.K X.mg X.base X.A X.stack s H :=
  ⟨I.ok.frames, I.ok.mod, I.bs, Nat.le_trans I.ok.bsz I.sz, I.stack, I.stkFree, I.hok, I.bare⟩
theorem Inv.after {Q : VK} {u : Value} (I : Inv X pins σ H s) (h : CE X.stack X.prog X.w H s Q u s') : EP X pins σ Q u s' := by
  obtain ⟨v, H', os, bare, un, hok, r, q⟩ := h
  obtain ⟨hh, g, d, t, os'⟩ := s'
  obtain rfl : os' = s.os := os
  exact ⟨v, H', I.call (h' := hh) (g' := g) (d' := d) (t' := t) (ch := []) un hok bare (λ b z => absurd z (by simp)), r, q⟩
end
def tCall (sp : Sp) (dvs : List V) (E : XK) (t : TA) : TE := λ σ H Q => t σ H λ vs H1 => sp (vs ++ dvs) H1 Q E
def Binds (K : PySem.W.Frag) (fd : FuncData) (ps : List Str) (ds : List Value) : Prop :=
  ∀ (s : Shared) (us : List Value), K.In s.heap -> (us ++ ds).length = ps.length -> BindsTo s fd ⟨us, []⟩ (ps.zip (us ++ ds))
theorem Binds.all {K : PySem.W.Frag} {fd : FuncData} {ps : List Str} (h : ∀ us : List Value, us.length = ps.length -> bindArgs fd ⟨us, []⟩ = pure (ps.zip us)) : Binds K fd ps [] := λ s us _ hl => by
  rw [List.append_nil] at hl ⊢
  exact .of_eq (h us hl)
def Passes (CX : CXT) (X : Cx) (E : XK) : Prop := ∀ (pins : List (Addr × Obj)) (σ : St) (H : Hp) (s : Shared) (e : Value) (s' : Shared), Inv X pins σ H s -> CX X.stack H s E e s' -> X.xe e s'
section
variable {X : Cx} {CX : CXT} {k : Nat} {f C : Addr} {fd : FuncData} {ps : List Str} {sp : Sp} {dvs : List V} {ds : List Value} {E : XK} {x m : Str} {p pos apos : Pos} {e o : Expr} {es : List Expr} {ta : TE} {t : TA}
theorem run_fn {pins : List (Addr × Obj)} {σ : St} {H : Hp} {s : Shared} {Q : VK} {us : List Value} {vs : List V} (F : FnOk X.prog X.w X.K X.mg X.base CX k f fd ps sp) (hr : Room k X.A) (hb : Binds X.K fd ps ds) (hd : Vals dvs ds) (hx : Passes CX X E)
    (I : Inv X pins σ H s) (r : Vals vs us) (h : sp (vs ++ dvs) H Q E) : wpAny (model X.prog X.w) X.A (call (.ref f) us) (EP X pins σ Q) X.xe s := by
  have r2 : Vals (vs ++ dvs) (us ++ ds) := r.append hd
  have hl : (us ++ ds).length = ps.length := by rw [<- r2.length]; exact F.len _ _ _ _ h
  refine wpAny_call (codeAny_mono (F.run X.A X.stack s H ⟨us, []⟩ (us ++ ds) (vs ++ dvs) Q E hr I.env0 (hb s us I.kIn hl) r2 h) λ r s' hq => ?_)
  cases r with
  | error e => exact hx pins σ H s e s' I hq
  | ok fl =>
    cases fl with
    | ret u => exact I.after hq
    | next => exact False.elim hq
    | brk => exact False.elim hq
    | cont => exact False.elim hq
theorem pe_call (F : FnOk X.prog X.w X.K X.mg X.base CX k f fd ps sp) (hr : Room k X.A) (hg : Gl X x) (hm : X.mg x = some (.ref f)) (hk : PySem.W.keepIn X.K (.ref f) = true) (hb : Binds X.K fd ps ds) (hd : Vals dvs ds) (hx : Passes CX X E)
    (ha : PA X (e :: es) t) (hdb : (x == ("__debug__" : Str)) = false := by decide) (he : starEach (e :: es) X.env = (false, eval e X.env) :: starEach es X.env := by rfl) (hpl : (backTo pos (starEach es X.env)).any (·.1) = false := by rfl) :
    PE X (.Call (.Name x p) (e :: es) [] pos) (tCall sp dvs E t) := by
  intro pins s σ H Q I h
  refine wpAny_Call_Name_kw (ld_glob I hg hm ?_ hdb)
  refine PySem.W.callWith_K (h₀ := X.base) I.ok.mod.kin hk (thn (ha pos pins s σ H _ I h) λ us s1 ⟨vs, H1, I1, r, q⟩ => ⟨I1.kIn, ?_⟩) he hpl
  exact run_fn F hr hb hd hx I1 r q
end
section
variable {X : Cx} {CX : CXT} {k : Nat} {f C : Addr} {fd : FuncData} {ps ks : List Str} {sp : Sp} {E : XK} {x m : Str} {p pos apos kpos : Pos} {e o : Expr} {es : List Expr} {kws : List Keyword} {te ta : TE} {t tk : TA} {nm : Option Str}
variable {g : List Value -> List Value -> List Value} {gV : List V -> List V -> List V}
end
structure FnScope (N P : List Str) (sc : Scope) : Prop where
  kind : sc.kind = .function
  co : sc.isCoroutine = false
  gen : sc.isGenerator = false
  nd : N.Nodup
  pre : N.take P.length = P
  par : ∀ x ∈ P, sc.names.lookup x = some .local ∨ sc.names.lookup x = some .cell
  nofree : ∀ y ∈ sc.names, y.2 ≠ .free
theorem bindL_out {kindOf : Str -> Option NameKind} {x : Str} : ∀ {binds : List (Str × Value)} {m : Str -> Option Value}, (∀ v, (x, v) ∉ binds) -> bindL kindOf binds m x = m x
  | [], _, _ => rfl
  | (n, v) :: r, m, h => by
    unfold bindL
    rw [bindL_out λ w hw => h w (List.mem_cons_of_mem _ hw)]
    split
    . have : x ≠ n := by rintro rfl; exact h v List.mem_cons_self
      simp [this]
    . rfl
theorem bindC_out {kindOf : Str -> Option NameKind} {x : Str} : ∀ {binds : List (Str × Value)} {m : Str -> Option Value}, (∀ v, (x, v) ∉ binds) -> bindC kindOf binds m x = m x
  | [], _, _ => rfl
  | (n, v) :: r, m, h => by
    unfold bindC
    rw [bindC_out λ w hw => h w (List.mem_cons_of_mem _ hw)]
    split
    . rfl
    . have : x ≠ n := by rintro rfl; exact h v List.mem_cons_self
      simp [this]
theorem bindL_get {kindOf : Str -> Option NameKind} {x : Str} {v : Value} : ∀ {P : List Str} {vs : List Value} {i : Nat} {m : Str -> Option Value}, P.Nodup -> P[i]? = some x -> vs[i]? = some v -> kindOf x = some .local ->
    bindL kindOf (P.zip vs) m x = some v
  | [], _, _, _, _, h, _, _ => by simp at h
  | _ :: _, [], _, _, _, _, h, _ => by simp at h
  | p :: P, w :: vs, 0, m, nd, h1, h2, hk => by
    simp at h1 h2; subst h1; subst h2
    show bindL kindOf ((p, w) :: P.zip vs) m p = _
    unfold bindL
    rw [bindL_out λ v hv => (List.nodup_cons.mp nd).1 (List.of_mem_zip hv).1, if_pos hk]
    simp
  | p :: P, w :: vs, i + 1, m, nd, h1, h2, hk => by
    show bindL kindOf ((p, w) :: P.zip vs) m x = _
    unfold bindL
    exact bindL_get (i := i) (List.nodup_cons.mp nd).2 (by simpa using h1) (by simpa using h2) hk
theorem bindC_get {kindOf : Str -> Option NameKind} {x : Str} {v : Value} : ∀ {P : List Str} {vs : List Value} {i : Nat} {m : Str -> Option Value}, P.Nodup -> P[i]? = some x -> vs[i]? = some v -> kindOf x ≠ some .local ->
    bindC kindOf (P.zip vs) m x = some v
  | [], _, _, _, _, h, _, _ => by simp at h
  | _ :: _, [], _, _, _, _, h, _ => by simp at h
  | p :: P, w :: vs, 0, m, nd, h1, h2, hk => by
    simp at h1 h2; subst h1; subst h2
    show bindC kindOf ((p, w) :: P.zip vs) m p = _
    unfold bindC
    rw [bindC_out λ v hv => (List.nodup_cons.mp nd).1 (List.of_mem_zip hv).1, if_neg hk]
    simp
  | p :: P, w :: vs, i + 1, m, nd, h1, h2, hk => by
    show bindC kindOf ((p, w) :: P.zip vs) m x = _
    unfold bindC
    exact bindC_get (i := i) (List.nodup_cons.mp nd).2 (by simpa using h1) (by simpa using h2) hk
def start (N : List Str) (vs : List V) : St := vs.map some ++ List.replicate (N.length - vs.length) none
def cxOf (CX : CXT) (P : Program) (w : World) (K : PySem.W.Frag) (mg : Str -> Option Value) (base : Heap) (N : List Str) (qual : Str) (scope : Scope) (f : Addr) (cd : Value) (A : Around) (outer : List Env) (s : Shared) (H : Hp) (E : XK) : Cx where
  prog := P
  w := w
  K := K
  mg := mg
  base := base
  A := A.deeper (envOfC qual scope s.heap.objs.size f cd)
  N := N
  s₀ := s
  H₀ := H
  env := envOfC qual scope s.heap.objs.size f cd
  outer := outer
  stack := envOfC qual scope s.heap.objs.size f cd :: outer
  ex := []
  calm := true
  fn := λ _ => true
  pn := []
  xe := λ e s' => wpAny (model P w) (A.deeper (envOfC qual scope s.heap.objs.size f cd)) (leaving (envOfC qual scope s.heap.objs.size f cd) e) (λ _ s'' => CX outer H s E e s'') (λ e' s'' => CX outer H s E e' s'') s'
theorem cell_has {sc : Scope} {n : Nat} {x : Str} (h : sc.names.lookup x = some .cell) : ∃ c, (cellsFrom n sc.names []).lookup x = some c := by
  have q := PySem.W.cellsFrom_some sc.names n [] (.inl h)
  exact Option.isSome_iff_exists.mp q
theorem inv_start {CX : CXT} {P : Program} {w : World} {K : PySem.W.Frag} {mg : Str -> Option Value} {base : Heap} {N ps : List Str} {qual : Str} {scope : Scope} {f : Addr} {cd : Value} {A : Around} {outer : List Env} {s s1 : Shared} {H : Hp} {E : XK} {us : List Value} {vs : List V}
    (S : FnScope N ps scope) (hd : A.handled = none) (e0 : Env0 P w K mg base A outer s H) (hl : vs.length = ps.length) (r : Vals vs us)
    (x : InCallC s s.heap.objs.size (bindL (envOfC qual scope s.heap.objs.size f cd).kindOf (ps.zip us) λ _ => none) (cellsFrom (s.heap.objs.size + 1) scope.names []) (bindC (envOfC qual scope s.heap.objs.size f cd).kindOf (ps.zip us) λ _ => none) s1) :
    Inv (cxOf CX P w K mg base N qual scope f cd A outer s H E) [] (start N vs) H s1 := by
  have hpl : ps.length <= N.length := by have := congrArg List.length S.pre; rw [List.length_take] at this; omega
  obtain ⟨h1, tk, rfl, hk⟩ := x.done
  have noA : ∀ b : Addr, b ∉ (cxOf CX P w K mg base N qual scope f cd A outer s H E).ex := λ b z => absurd (show b ∈ ([] : List Addr) from z) (by simp)
  refine ⟨⟨e0.mod, S.kind, rfl, rfl, Nat.le_refl _, λ y z c h1 h2 => ?_, λ y hy => ?_, λ y c _ h => ?_, λ _ => hd, Around.frames_deeper e0.frames, .inr ⟨rfl, rfl⟩, λ b z => absurd z (noA b), e0.bs, e0.bsz, λ b _ _ => noA b, λ b z => absurd z (noA b), e0.funs, e0.frf⟩,
    rfl, e0.bare, Un.kept hk, ⟨_, x.toInCall.ns, λ i y v h1 h2 h3 => ?_⟩, λ y c h => ⟨_, x.cell y c h⟩, e0.hok.fresh (Nat.le_refl _), λ y c h => ?_, λ p hp => absurd (show p ∈ ([] : List (Addr × Obj)) from hp) (by simp), e0.hok.kept hk, ?_⟩
  . exact name_of_addr x.apart (PySem.mem_of_lookup h1) (PySem.mem_of_lookup h2)
  . have hy : scope.names.lookup y = some .cell ∨ scope.names.lookup y = some .free := hy
    rcases hy with hy | hy
    . exact cell_has hy
    . exact absurd rfl (S.nofree _ (PySem.mem_of_lookup hy))
  . exact Nat.le_of_lt (x.above y c (PySem.mem_of_lookup h))
  . have hi : i < vs.length := by
      unfold start at h2
      by_cases hi : i < vs.length
      . exact hi
      . rw [List.getElem?_append_right (by simpa using hi)] at h2
        rw [List.getElem?_replicate] at h2
        split at h2 <;> cases h2
    have ha : vs[i]? = some v := by
      unfold start at h2
      rw [List.getElem?_append_left (by simpa using hi), List.getElem?_map] at h2
      cases e : vs[i]? with
      | none => rw [e] at h2; cases h2
      | some a => rw [e] at h2; cases h2; rfl
    obtain ⟨u, hu, rv⟩ := r.get ha
    have hp : ps[i]? = some y := by
      rw [<- S.pre, List.getElem?_take_of_lt (by omega)]; exact h1
    have ndP : ps.Nodup := by rw [<- S.pre]; exact S.nd.sublist (List.take_sublist _ _)
    refine ⟨u, rv, ?_⟩
    rcases S.par y (List.mem_of_getElem? hp) with k | k
    . exact .inl ⟨k, bindL_get ndP hp hu k⟩
    . obtain ⟨c, e⟩ := cell_has (n := s.heap.objs.size + 1) k
      refine .inr ⟨.inl k, c, e, ?_⟩
      have q := x.cell y c e
      rw [bindC_get ndP hp hu (by show scope.names.lookup y ≠ _; rw [k]; decide)] at q
      exact q
  . exact e0.hok.fresh (Nat.le_of_lt (x.above y c (PySem.mem_of_lookup h)))
  . unfold start
    show _ = N.length
    rw [List.length_append, List.length_map, List.length_replicate]
    omega
theorem fn_of {CX : CXT} {P : Program} {w : World} {K : PySem.W.Frag} {mg : Str -> Option Value} {base : Heap} {k : Nat} {f : Addr} {name qual : Str} {params : Arguments} {body : List Stmt} {scope : Scope} {dV kV doc pm cdv ct oc : Value} {an od : Option Addr}
    {osl : Array (Option Value)} {N ps : List Str} {sp : Sp} (lk : K.lookup f = some ⟨oc, od, .func (PySem.W.fnOf name qual params body scope dV kV doc pm an cdv ct), osl⟩) (hcd : PySem.W.codeIn K cdv qual = true) (S : FnScope N ps scope)
    (len : ∀ vs H Q E, sp vs H Q E -> vs.length = ps.length)
    (hbody : ∀ (A : Around) (outer : List Env) (s : Shared) (H : Hp) (vs : List V) (Q : VK) (E : XK), Room k (A.deeper (envOfC qual scope s.heap.objs.size f cdv)) -> sp vs H Q E ->
      ∃ t, PSs (cxOf CX P w K mg base N qual scope f cdv A outer s H E) body t /\ t { nx := λ _ H' => Q .non H', rt := Q } (start N vs) H) :
    FnOk P w K mg base CX (k + 1) f (PySem.W.fnOf name qual params body scope dV kV doc pm an cdv ct) ps sp := by
  refine ⟨len, λ A outer s H args us vs Q E hr e0 hb r hsp => ?_⟩
  have hl := len _ _ _ _ hsp
  have KX : K.In s.heap := e0.mod.kin.keeps λ b o e => (e0.bs b o e).1
  have lim : s.heap.NoLimit := e0.mod.nolimit.keeps λ b o e => (e0.bs b o e).1
  have hkind : ∀ y ∈ ps.zip us, scope.names.lookup y.1 = some .local ∨ (scope.names.lookup y.1 = some .cell /\ ((cellsFrom (s.heap.objs.size + 1) scope.names []).lookup y.1).isSome = true) := λ ⟨n, v⟩ hy => by
    rcases S.par n (List.of_mem_zip hy).1 with q | q
    . exact .inl q
    . exact .inr ⟨q, PySem.W.cellsFrom_some _ _ _ (.inl q)⟩
  refine codeAny_call_function hr.depth (KX _ _ lk) rfl S.co S.gen rfl (PySem.W.codeRec_of KX hcd) (hb _ _ _ _ ?_)
  refine wpAny_newFunctionEnv_cells S.kind hkind λ env he s1 x => ?_
  subst he
  refine ⟨lim.keeps x.toInCall.keep, codeAny_func ?_⟩
  obtain ⟨t, ht, hq⟩ := hbody A outer s H vs Q E (hr.deeper _) hsp
  have I : Inv (cxOf CX P w K mg base N qual scope f cdv A outer s H E) [] (start N vs) H s1 := inv_start S hr.hd e0 hl r x
  refine wpAny_mono (ht [] s1 (start N vs) H _ I hq) (λ fl s' hs => ?_) λ e s' hs => hs
  have fin : ∀ {σ' : St} {H' : Hp} {v : V} {u : Value}, Inv (cxOf CX P w K mg base N qual scope f cdv A outer s H E) [] σ' H' s' -> RelV v u -> Q v H' -> CE outer P w H s Q u s' :=
    λ {σ' H' v u} J rv q => ⟨v, H', J.os, J.bare, J.base, J.hok, rv, q⟩
  cases fl with
  | ret u =>
    obtain ⟨v, σ', H', J, rv, q⟩ := hs
    exact fin J rv q
  | next =>
    obtain ⟨σ', H', J, q⟩ := hs
    exact fin (v := V.non) (u := Value.none) J rfl q
  | brk =>
    obtain ⟨_, _, _, q⟩ := hs
    exact False.elim q
  | cont =>
    obtain ⟨_, _, _, q⟩ := hs
    exact False.elim q
end L2
namespace L2
open PySem PySem.Spec PyProof.Rows
section
variable {X : Cx} {x : Str} {p pos : Pos} {e : Expr} {es : List Expr} {t : TA} {id T : String} {r : List V -> Hp -> VK -> Prop}
def tCB (r : List V -> Hp -> VK -> Prop) (t : TA) : TE := λ σ H Q => t σ H λ vs H1 => r vs H1 Q
theorem pe_callB (hc : CallR X (.builtin id) r) (hg : Gl X x) (hm : X.mg x = none) (hv : bootBuiltins x = some (.builtin id)) (ha : PA X (e :: es) t) (hn : x ≠ "__name__" := by decide) (hdb : (x == ("__debug__" : Str)) = false := by decide)
    (he : starEach (e :: es) X.env = (false, eval e X.env) :: starEach es X.env := by rfl) (hpl : (backTo pos (starEach es X.env)).any (·.1) = false := by rfl) : PE X (.Call (.Name x p) (e :: es) [] pos) (tCB r t) := by
  intro pins s σ H Q I h
  refine wpAny_Call_Name_kw (ld_blt I hg hm hv ?_ hn hdb)
  exact PyProof.Rows.callWith_builtin1 (thn (ha pos pins s σ H _ I h) λ us s1 ⟨vs, H1, I1, r1, q1⟩ => hc pins s1 σ H1 vs us Q I1 r1 q1) he hpl
theorem pe_callTy (hc : CallR X (.type T) r) (hg : Gl X x) (hm : X.mg x = none) (hv : bootBuiltins x = some (.type T)) (ha : PA X (e :: es) t) (hn : x ≠ "__name__" := by decide) (hdb : (x == ("__debug__" : Str)) = false := by decide)
    (he : starEach (e :: es) X.env = (false, eval e X.env) :: starEach es X.env := by rfl) (hpl : (backTo pos (starEach es X.env)).any (·.1) = false := by rfl) : PE X (.Call (.Name x p) (e :: es) [] pos) (tCB r t) := by
  intro pins s σ H Q I h
  refine wpAny_Call_Name_kw (ld_blt I hg hm hv ?_ hn hdb)
  exact PyProof.Rows.callWith_type1 (thn (ha pos pins s σ H _ I h) λ us s1 ⟨vs, H1, I1, r1, q1⟩ => hc pins s1 σ H1 vs us Q I1 r1 q1) he hpl
end
end L2
namespace HT
open PySem PyProof.Rows
section
open PySem.SeqAt
open PySem.AutoSeq1 (wpAny_loadPart')
open PySem.MeetsSeq PySem.MeetsSeq2 PySem.MeetsSeq3
end
section
variable {prog : Program} {w : World} {A : Around} {E : Value -> Shared -> Prop} {s : Shared}
theorem cat_tup {t b : Addr} {vs ws : List Value} {Q : Value -> Shared -> Prop} (ht : IsTup s.heap t vs.toArray) (hb : IsTup s.heap b ws.toArray) (hv : vs ≠ [])
    (h1 : ws = [] -> Q (.ref t) s) (h2 : ws ≠ [] -> Q (.ref s.heap.objs.size) { s with heap := s.heap.push { cls := .type "tuple", data := .seq (vs ++ ws).toArray } })
    (hsz : vs.length + ws.length <= sizeLine) : wpAny (model prog w) A (binaryOp .Add (.ref t) (.ref b)) Q E s := by
  obtain ⟨⟨cls, dd, data, sl⟩, ho, hc, n, hd⟩ := id ht
  obtain ⟨⟨cls2, dd2, data2, sl2⟩, ho2, hc2, n2, hd2⟩ := id hb
  simp only at hc hd hc2 hd2
  subst hc hd hc2 hd2
  have e : vs.toArray ++ ws.toArray = (vs ++ ws).toArray := by simp
  by_cases hw : ws = []
  . exact concat_meets ⟨_, ho, rfl⟩ ⟨_, ho2, rfl⟩ noFill_tuple_add seq_tuple_add PySem.F.slot_tuple_add PySem.F.entry_tuple_add (PySem.F.args_tuple_add_2 _ _)
      (tuple_addW1 t b vs.toArray ws.toArray n n2 dd dd2 sl sl2 (by simpa using hv) (by simp [hw])) ⟨ho, ho2, h1 hw⟩
  . refine concat_meets ⟨_, ho, rfl⟩ ⟨_, ho2, rfl⟩ noFill_tuple_add seq_tuple_add PySem.F.slot_tuple_add PySem.F.entry_tuple_add (PySem.F.args_tuple_add_2 _ _)
      (tuple_addW2 t b vs.toArray ws.toArray n n2 dd dd2 sl sl2 (by simpa using hv) (by simpa using hw) (by rw [List.size_toArray, List.size_toArray]; exact hsz)) ⟨ho, ho2, ?_⟩
    rw [e]
    exact h2 hw
def sIx (n d : Nat) : Option Int -> Nat
  | none => d
  | some v => if v < 0 then (v + (n : Int)).toNat else min v.toNat n
end
end HT
namespace L2
open PySem PySem.Spec PyProof.Rows
abbrev TO := St -> Hp -> (Option Int -> Hp -> Prop) -> Prop
def PO (X : Cx) (e : Option Expr) (t : TO) : Prop :=
  ∀ (pins : List (Addr × Obj)) (s : Shared) (σ : St) (H : Hp) (Q : Option Int -> Hp -> Prop), Inv X pins σ H s -> t σ H Q ->
    wpAny (model X.prog X.w) X.A (evalPart e X.env) (λ u s' => ∃ o H', Inv X pins σ H' s' /\ IsPart u o /\ Q o H') X.xe s
def tNoPart : TO := λ _ H Q => Q none H
def tPart (t : TE) : TO := λ σ H Q => t σ H λ x H1 => ∃ i, x = .int i /\ Q (some i) H1
section
variable {X : Cx} {e : Expr} {te : TE} {lo hi : Option Expr} {tl th : TO} {pos p2 : Pos}
theorem po_none : PO X none tNoPart := by
  intro pins s σ H Q I h
  rw [evalPart_none]
  exact wpAny_pure ⟨none, H, I, .none, h⟩
theorem po_some (h : PE X e te) : PO X (some e) (tPart te) := by
  intro pins s σ H Q I hw
  rw [evalPart_some]
  refine thn (h pins s σ H _ I hw) λ u s1 ⟨x, H1, I1, r1, q1⟩ => ?_
  obtain ⟨i, rfl, q⟩ := q1
  obtain ⟨t, rfl⟩ := r1
  exact ⟨some i, H1, I1, .int i t, q⟩
def SlR (X : Cx) (r : V -> Option Int -> Option Int -> Hp -> VK -> Prop) : Prop :=
  ∀ (pins : List (Addr × Obj)) (s : Shared) (σ : St) (H : Hp) (x : V) (v vl vu : Value) (lo hi : Option Int) (sl : Addr) (Q : VK), Inv X pins σ H s -> RelV x v -> s.heap.IsSliceOf sl vl vu .none -> IsPart vl lo -> IsPart vu hi -> r x lo hi H Q ->
    ∃ T id, typeLookup (.type T) "__getitem__" = pure (some (.builtin id)) /\ s.TypeIs v T /\ wpAny (model X.prog X.w) X.A (getItem v (.ref sl)) (EP X pins σ Q) X.xe s
def tSl (r : V -> Option Int -> Option Int -> Hp -> VK -> Prop) (te : TE) (tl th : TO) : TE := λ σ H Q => te σ H λ x H1 => tl σ H1 λ l H2 => th σ H2 λ u H3 => r x l u H3 Q
theorem pe_slice {r : V -> Option Int -> Option Int -> Hp -> VK -> Prop} (hr : SlR X r) (he : PE X e te) (hl : PO X lo tl) (hu : PO X hi th) : PE X (.Subscript e (.Slice lo hi none p2) pos) (tSl r te tl th) := by
  intro pins s σ H Q I h
  refine Subscript_ (thn (he pins s σ H _ I h) λ v s1 ⟨x, H1, I1, r1, q1⟩ => ?_)
  refine wpAny_Slice (thn (hl pins s1 σ H1 _ I1 q1) λ vl s2 ⟨l, H2, I2, pl, q2⟩ => thn (hu pins s2 σ H2 _ I2 q2) λ vu s3 ⟨u, H3, I3, pu, q3⟩ => ?_)
  rw [evalPart_none]
  refine wpAny_pure ?_
  have I4 : Inv X pins σ H3 { s3 with heap := s3.heap.push { cls := .type "slice", data := .fields #[vl, vu, .none] } } := I3.kept (t' := s3.toks) λ b ob q => Heap.get?_push_of_some _ q
  obtain ⟨T, id, hT, ht, hg⟩ := hr pins { s3 with heap := s3.heap.push { cls := .type "slice", data := .fields #[vl, vu, .none] } } σ H3 x v vl vu l u s3.heap.objs.size Q I4 r1 (Heap.IsSliceOf.new ..) pl pu q3
  show wpAny (model X.prog X.w) X.A (subscriptTail e (.Slice lo hi none p2) v (.ref s3.heap.objs.size)) (EP X pins σ Q) X.xe { s3 with heap := s3.heap.push { cls := .type "slice", data := .fields #[vl, vu, .none] } }
  exact tail_any (ops := [.ref s3.heap.objs.size, v]) ht hT hg (by with_unfolding_all rfl)
def cutV (xs : List V) (lo hi : Option Int) : List V := (xs.drop (HT.sIx xs.length 0 lo)).take (HT.sIx xs.length xs.length hi - HT.sIx xs.length 0 lo)
theorem cutV_length (xs : List V) (lo hi : Option Int) : (cutV xs lo hi).length <= xs.length := by
  unfold cutV
  rw [List.length_take, List.length_drop]
  omega
def rCatT (K : PySem.W.Frag) : R2 := λ x y H Q => ∃ a b xs ys, x = .ref a /\ y = .ref b /\ SqT K H a xs /\ SqT K H b ys /\ xs ≠ [] /\ xs.length + ys.length <= sizeLine /\
  (ys = [] -> Q (.ref a) H) /\ (ys ≠ [] -> ∀ p, H p = none -> Q (.ref p) (upd H p (.tup (xs ++ ys))))
theorem Vals.nil_iff {xs : List V} {us : List Value} (r : Vals xs us) : us = [] ↔ xs = [] := by
  cases r with
  | nil => simp
  | cons _ _ => simp
theorem op_catT : OpR X (binaryOp .Add) (rCatT X.K) := by
  intro pins s σ H x y v u Q I rx ry h
  obtain ⟨a, b, xs, ys, rfl, rfl, ha, hb, hx, hz, q1, q2⟩ := h
  cases rx
  cases ry
  obtain ⟨its, r1, p1, _⟩ := I.tuple ha
  obtain ⟨its2, r2, p2, _⟩ := I.tuple hb
  refine HT.cat_tup p1 p2 (λ z => hx (r1.nil_iff.mp z)) (λ z => ⟨.ref a, H, I, rfl, q1 (r2.nil_iff.mp z)⟩) (λ z => ?_) (by rw [<- r1.length, <- r2.length]; exact hz)
  refine ⟨.ref s.heap.objs.size, _, I.laid (t' := s.toks) (o := .tup (xs ++ ys)) (λ b ob q => Heap.get?_push_of_some _ q) (Nat.le_refl _) ?_, rfl, q2 (λ w => z (r2.nil_iff.mpr w)) _ (I.hok.fresh (Nat.le_refl _))⟩
  exact ⟨by rw [List.length_append]; exact hz, _, r1.append r2, IsTup.new _ _⟩
end
end L2
namespace L2
open PySem PySem.Spec PyProof.Rows
def ixN (n : Nat) (i : Int) : Option Nat := if 0 <= i then (if i < n then some i.toNat else none) else if -(n : Int) <= i then some (i + n).toNat else none
def atI {α : Type} (xs : List α) (i : Int) : Option α := (ixN xs.length i).bind λ j => xs[j]?
theorem ixN_seq {n : Nat} {i : Int} {j : Nat} (h : ixN n i = some j) : seqIndex? i n = some j /\ j < n /\ -(n : Int) <= i /\ i < n := by
  unfold ixN at h
  by_cases h0 : 0 <= i
  . rw [if_pos h0] at h
    by_cases h1 : i < n
    . rw [if_pos h1] at h
      have e : i.toNat = j := Option.some.inj h
      exact ⟨by rw [seqIndex_of h0 h1, e], by omega, by omega, h1⟩
    . rw [if_neg h1] at h; cases h
  . rw [if_neg h0] at h
    by_cases h1 : -(n : Int) <= i
    . rw [if_pos h1] at h
      have e : (i + n).toNat = j := Option.some.inj h
      exact ⟨by rw [seqIndex_neg (by omega) h1, e], by omega, h1, by omega⟩
    . rw [if_neg h1] at h; cases h
theorem atI_get {α : Type} {xs : List α} {i : Int} {v : α} (h : atI xs i = some v) : ∃ j, seqIndex? i xs.length = some j /\ xs[j]? = some v /\ j < xs.length /\ -(xs.length : Int) <= i /\ i < xs.length := by
  unfold atI at h
  cases e : ixN xs.length i with
  | none => rw [e] at h; cases h
  | some j =>
    rw [e] at h
    obtain ⟨h1, h2, h3, h4⟩ := ixN_seq e
    exact ⟨j, h1, h, h2, h3, h4⟩
theorem atI_nat {α : Type} {xs : List α} {j : Nat} {v : α} (h : xs[j]? = some v) : atI xs (j : Int) = some v := by
  have hj : j < xs.length := (List.getElem?_eq_some_iff.mp h).1
  have e : ixN xs.length (j : Int) = some j := by
    unfold ixN
    rw [if_pos (by omega), if_pos (by omega)]; simp
  unfold atI; rw [e]; exact h
theorem atI_last {α : Type} (xs : List α) (v : α) : atI (xs ++ [v]) (-1) = some v := by
  have hl : (xs ++ [v]).length = xs.length + 1 := by simp
  have e : ixN (xs ++ [v]).length (-1) = some xs.length := by
    unfold ixN
    rw [hl, if_neg (by decide), if_pos (by omega)]
    congr 1
    omega
  unfold atI
  rw [e]
  show (xs ++ [v])[xs.length]? = some v
  simp
def PlainIx (b : Expr) : Prop := ∀ o i, subscripted b false o i = operate [o, i] (getItem o i)
def IxR (X : Cx) (r : R2) : Prop :=
  ∀ (value slice : Expr) (pins : List (Addr × Obj)) (s : Shared) (σ : St) (H : Hp) (x y : V) (v u : Value) (Q : VK), Inv X pins σ H s -> RelV x v -> RelV y u -> r x y H Q ->
    subscripted slice false v u = operate [v, u] (getItem v u) -> wpAny (model X.prog X.w) X.A (subscriptTail value slice v u) (EP X pins σ Q) X.xe s
def MtR (X : Cx) (id : String) (r : V -> List V -> Hp -> VK -> Prop) : Prop :=
  ∀ (pins : List (Addr × Obj)) (s : Shared) (σ : St) (H : Hp) (x : V) (xs : List V) (v : Value) (us : List Value) (Q : VK), Inv X pins σ H s -> RelV x v -> Vals xs us -> r x xs H Q ->
    wpAny (model X.prog X.w) X.A (call (.builtin id) (v :: us)) (EP X pins σ Q) X.xe s
section
variable {X : Cx} {a b : Expr} {ta tb : TE} {pos : Pos}
theorem IxR.or {r r' : R2} (h : IxR X r) (h' : IxR X r') : IxR X (λ x y H Q => r x y H Q ∨ r' x y H Q) := by
  intro value slice pins s σ H x y v u Q I rx ry q hs
  rcases q with q | q
  . exact h value slice pins s σ H x y v u Q I rx ry q hs
  . exact h' value slice pins s σ H x y v u Q I rx ry q hs
theorem pe_ix {r : R2} (hr : IxR X r) (ha : PE X a ta) (hb : PE X b tb) (hs : PlainIx b) : PE X (.Subscript a b pos) (tOp r ta tb) := by
  intro pins s σ H Q I h
  exact Subscript_ (binT ha hb I h λ v u s2 x y H2 I2 rx ry q => hr a b pins s2 σ H2 x y v u Q I2 rx ry q (hs _ _))
def rIxL (K : PySem.W.Frag) : R2 := λ x y H Q => ∃ p xs i v, x = .ref p /\ y = .int i /\ SqL K H p xs /\ atI xs i = some v /\ Q v H
def rIxT (K : PySem.W.Frag) : R2 := λ x y H Q => ∃ p xs i v, x = .ref p /\ y = .int i /\ SqT K H p xs /\ atI xs i = some v /\ Q v H
theorem ix_list : IxR X (rIxL X.K) := by
  intro value slice pins s σ H x y v u Q I rx ry h hs
  obtain ⟨p, xs, i, z, rfl, rfl, hq, he, q⟩ := h
  cases rx
  obtain ⟨t, rfl⟩ := ry
  obtain ⟨its, r, pl, hz⟩ := I.list hq
  obtain ⟨j, h1, h2, h3, h4, h5⟩ := atI_get he
  obtain ⟨w, ew, rw'⟩ := r.get h2
  have hl := r.length
  have hn := line63
  have fin : EP X pins σ Q w s := ⟨z, H, I, rw', q⟩
  by_cases h0 : 0 <= i
  . have hj : i.toNat = j := by
      rw [seqIndex_of h0 h5] at h1
      exact Option.some.inj h1
    exact item_listR pl.isList h0 (by omega) (by rw [hj]; simpa using ew) fin hs
  . have hj : (i + (its.toArray.size : Int)).toNat = j := by
      rw [seqIndex_neg (by omega) h4] at h1
      rw [List.size_toArray, <- hl]
      exact Option.some.inj h1
    exact subscriptTail_builtinR (x := w) pl.isList.typeIs slot_list_getitem.lookup
      (wpAny_getItem_list_neg (Q := λ r s' => r = w /\ EP X pins σ Q r s') pl.isList (by omega) (by rw [List.size_toArray] <;> omega) (by omega) (by rw [hj]; simpa using ew) ⟨rfl, fin⟩) hs
theorem ix_tup : IxR X (rIxT X.K) := by
  intro value slice pins s σ H x y v u Q I rx ry h hs
  obtain ⟨p, xs, i, z, rfl, rfl, hq, he, q⟩ := h
  cases rx
  obtain ⟨t, rfl⟩ := ry
  obtain ⟨its, r, pl, hz⟩ := I.tuple hq
  obtain ⟨j, h1, h2, h3, h4, h5⟩ := atI_get he
  obtain ⟨w, ew, rw'⟩ := r.get h2
  have hl := r.length
  have hn := line63
  have fin : EP X pins σ Q w s := ⟨z, H, I, rw', q⟩
  exact subscriptTail_builtinR (x := w) pl.typeIs slot_tuple_getitem.lookup
    (getItem_tuple (j := j) (Q := λ r s' => r = w /\ EP X pins σ Q r s') pl (by omega) (by omega) (by rw [List.size_toArray, <- hl]; exact h1) (by simpa using ew) ⟨rfl, fin⟩) hs
theorem Inv.lst {pins : List (Addr × Obj)} {σ : St} {H : Hp} {s : Shared} {p : Addr} {xs : List V} (I : Inv X pins σ H s) (h : H p = some (.lst xs)) :
    ∃ (its : List Value) (n : Nat), Vals xs its /\ s.heap.get? p = some { cls := .type "list", data := .seq its.toArray n } /\ xs.length <= sizeLine := by
  obtain ⟨z, its, n, r, e⟩ := I.hok p _ h
  exact ⟨its, n, r, e, z⟩
theorem slice_bounds (lo hi : Option Int) (n : Nat) : (sliceBounds lo hi none n).1 = ((HT.sIx n 0 lo : Nat) : Int) /\ (sliceBounds lo hi none n).2.1 = ((HT.sIx n n hi : Nat) : Int) /\ (sliceBounds lo hi none n).2.2 = 1 := by
  refine ⟨?_, ?_, rfl⟩
  . cases lo with
    | none => simp [sliceBounds, HT.sIx]
    | some i =>
      simp only [sliceBounds, HT.sIx, Option.getD_none, show (1 : Int) > 0 by decide, if_true]
      by_cases h : i < 0
      . simp only [h, if_true] <;> omega
      . simp only [h, if_false] <;> omega
  . cases hi with
    | none => simp [sliceBounds, HT.sIx]
    | some i =>
      simp only [sliceBounds, HT.sIx, Option.getD_none, show (1 : Int) > 0 by decide, if_true]
      by_cases h : i < 0
      . simp only [h, if_true] <;> omega
      . simp only [h, if_false] <;> omega
theorem slicePick_cut (its : List Value) (lo hi : Option Int) : slicePick its.toArray lo hi none = ((its.drop (HT.sIx its.length 0 lo)).take (HT.sIx its.length its.length hi - HT.sIx its.length 0 lo)).toArray := by
  obtain ⟨h1, h2, h3⟩ := slice_bounds lo hi its.toArray.size
  unfold slicePick
  rw [h1, h2, h3]
  simp only [sliceRange_one, pick_run, List.size_toArray] <;> rfl
def rSlL (K : PySem.W.Frag) : V -> Option Int -> Option Int -> Hp -> VK -> Prop := λ x lo hi H Q => ∃ a xs, x = .ref a /\ SqL K H a xs /\ ∀ p, H p = none -> Q (.ref p) (upd H p (.lst (cutV xs lo hi)))
theorem sl_list : SlR X (rSlL X.K) := by
  intro pins s σ H x v vl vu lo hi sl Q I rx hs pl pu h
  obtain ⟨a, xs, rfl, hx, q⟩ := h
  cases rx
  obtain ⟨its, r, ht, hz⟩ := I.list hx
  have hlen := r.length
  refine ⟨"list", _, slot_list_getitem.lookup, ht.isList.typeIs, ?_⟩
  refine wpAny_getItem_list_slice ht.isList hs pl pu .none (by simp) ?_ (by rw [List.size_toArray] <;> omega)
  rw [slicePick_cut, <- hlen]
  refine ⟨.ref s.heap.objs.size, _, I.laid (t' := s.toks) (o := .lst (cutV xs lo hi)) (λ b ob q => Heap.get?_push_of_some _ q) (Nat.le_refl _) ?_, rfl, q _ (I.hok.fresh (Nat.le_refl _))⟩
  exact ⟨Nat.le_trans (cutV_length xs lo hi) hz, _, 0, (r.drop (HT.sIx xs.length 0 lo)).take (HT.sIx xs.length xs.length hi - HT.sIx xs.length 0 lo), Heap.get?_push_size _ rfl⟩
def flatV : V -> Bool
  | .non => true
  | .bl _ => true
  | .int _ => true
  | .str _ => true
  | _ => false
def eqV : V -> V -> Bool
  | .non, .non => true
  | .bl a, .bl b => a == b
  | .bl a, .int b => (if a then 1 else 0) == b
  | .int a, .bl b => a == (if b then 1 else 0)
  | .int a, .int b => a == b
  | .str a, .str b => a == b
  | _, _ => false
theorem eqAt_V {A : Around} {s : Shared} {y x : V} {u v : Value} (ry : RelV y u) (rx : RelV x v) (fy : flatV y = true) (fx : flatV x = true) : SeqAt.EqAt A s u v (eqV y x) := by
  cases y with
  | non =>
    cases ry
    cases x with
    | non => cases rx; exact SeqAt.EqAt.same _
    | bl b => cases rx; exact SeqAt.EqAt.none_bool b
    | int b => obtain ⟨t, rfl⟩ := rx; exact SeqAt.EqAt.none_int b t
    | str b => obtain ⟨t, rfl⟩ := rx; exact SeqAt.EqAt.none_str b t
    | _ => exact absurd (show false = true from fx) Bool.false_ne_true
  | bl a =>
    cases ry
    cases x with
    | non => cases rx; exact SeqAt.EqAt.bool_none a
    | bl b => cases rx; exact SeqAt.EqAt.bool_bool a b
    | int b => obtain ⟨t, rfl⟩ := rx; exact SeqAt.EqAt.bool_int a b t
    | str b => obtain ⟨t, rfl⟩ := rx; exact SeqAt.EqAt.bool_str a b t
    | _ => exact absurd (show false = true from fx) Bool.false_ne_true
  | int a =>
    obtain ⟨t', rfl⟩ := ry
    cases x with
    | non => cases rx; exact SeqAt.EqAt.int_none a t'
    | bl b => cases rx; exact SeqAt.EqAt.int_bool a t' b
    | int b => obtain ⟨t, rfl⟩ := rx; exact SeqAt.EqAt.int_int a t' b t
    | str b => obtain ⟨t, rfl⟩ := rx; exact SeqAt.EqAt.int_str a t' b t
    | _ => exact absurd (show false = true from fx) Bool.false_ne_true
  | str a =>
    obtain ⟨t', rfl⟩ := ry
    cases x with
    | non => cases rx; exact SeqAt.EqAt.str_none a t'
    | bl b => cases rx; exact SeqAt.EqAt.str_bool a t' b
    | int b => obtain ⟨t, rfl⟩ := rx; exact SeqAt.EqAt.str_int a t' b t
    | str b => obtain ⟨t, rfl⟩ := rx; exact SeqAt.EqAt.str_str a t' b t
    | _ => exact absurd (show false = true from fx) Bool.false_ne_true
  | _ => exact absurd (show false = true from fy) Bool.false_ne_true
def eqU (x : V) (u : Value) : Bool := match u with
  | .none => eqV .non x
  | .bool b => eqV (.bl b) x
  | .int i _ => eqV (.int i) x
  | .str z _ => eqV (.str z) x
  | _ => false
theorem eqU_of {x y : V} {u : Value} (r : RelV y u) (f : flatV y = true) : eqU x u = eqV y x := by
  cases y with
  | non => cases r; rfl
  | bl b => cases r; rfl
  | int i => obtain ⟨t, rfl⟩ := r; rfl
  | str z => obtain ⟨t, rfl⟩ := r; rfl
  | _ => exact absurd (show false = true from f) Bool.false_ne_true
theorem any_eqU {x : V} : ∀ {xs : List V} {us : List Value}, Vals xs us -> xs.all flatV = true -> us.any (eqU x) = xs.any λ y => eqV y x
  | _, _, .nil, _ => rfl
  | y :: xs, u :: us, .cons r t, f => by
    rw [List.all_cons, Bool.and_eq_true] at f
    rw [List.any_cons, List.any_cons, eqU_of r f.1, any_eqU t f.2]
theorem mem_eqAt {A : Around} {s : Shared} {x : V} {v : Value} (rx : RelV x v) (fx : flatV x = true) : ∀ {xs : List V} {us : List Value}, Vals xs us -> xs.all flatV = true -> ∀ u ∈ us, SeqAt.EqAt A s u v (eqU x u)
  | _, _, .nil, _ => λ u hu => by cases hu
  | y :: xs, u :: us, .cons r t, f => λ u' hu => by
    rw [List.all_cons, Bool.and_eq_true] at f
    rcases List.mem_cons.mp hu with rfl | hu
    . rw [eqU_of r f.1]; exact eqAt_V r rx f.1 fx
    . exact mem_eqAt rx fx t f.2 u' hu
def inV (x : V) (xs : List V) : Bool := xs.any λ y => eqV y x
def rIn (K : PySem.W.Frag) (neg : Bool) : R2 := λ x y H Q => ∃ p xs, y = .ref p /\ (SqL K H p xs ∨ SqT K H p xs) /\ flatV x = true /\ xs.all flatV = true /\ Q (.bl (if neg then !inV x xs else inV x xs)) H
theorem op_in_seq : OpR X (compareOp .In) (rIn X.K false) := by
  intro pins s σ H x y v u Q I rx ry h
  obtain ⟨p, xs, rfl, hq, fx, fs, q⟩ := h
  cases ry
  rcases hq with hq | hq
  . obtain ⟨its, r, pl, hz⟩ := I.list hq
    refine SeqAt.in_listAt (eqU x) pl.isList (λ w hw => mem_eqAt rx fx r fs w (by simpa using hw)) ⟨.bl _, H, I, rfl, ?_⟩
    rw [show its.toArray.any (eqU x) = its.any (eqU x) by simp, any_eqU r fs]
    exact q
  . obtain ⟨its, r, pl, hz⟩ := I.tuple hq
    refine SeqAt.in_tupleAt (eqU x) pl (λ w hw => mem_eqAt rx fx r fs w (by simpa using hw)) ⟨.bl _, H, I, rfl, ?_⟩
    rw [show its.toArray.any (eqU x) = its.any (eqU x) by simp, any_eqU r fs]
    exact q
theorem call_len_seq : CallR X (.builtin "len") (λ xs H Q => ∃ p ys, xs = [.ref p] /\ (SqL X.K H p ys ∨ SqT X.K H p ys) /\ Q (.int ys.length) H) := by
  intro pins s σ H xs us Q I r h
  obtain ⟨p, ys, rfl, hq, q⟩ := h
  obtain ⟨u, rfl, rx⟩ := vals1 r
  cases rx
  have hn := line63
  rcases hq with hq | hq
  . obtain ⟨its, r', pl, hz⟩ := I.list hq
    have hlen := r'.length
    exact Calls.call_len_list pl.isList (by simp only [List.size_toArray] <;> omega) ⟨.int ys.length, H, I.tok _, ⟨s.toks + 1, by rw [List.size_toArray, hlen]⟩, q⟩
  . obtain ⟨its, r', pl, hz⟩ := I.tuple hq
    have hlen := r'.length
    exact len_tuple pl (by simp only [List.size_toArray] <;> omega) ⟨.int ys.length, H, I.tok _, ⟨s.toks + 1, by rw [List.size_toArray, hlen]⟩, q⟩
theorem CallR.or {f : Value} {r r' : List V -> Hp -> VK -> Prop} (h : CallR X f r) (h' : CallR X f r') : CallR X f (λ xs H Q => r xs H Q ∨ r' xs H Q) := by
  intro pins s σ H xs us Q I rs q
  rcases q with q | q
  . exact h pins s σ H xs us Q I rs q
  . exact h' pins s σ H xs us Q I rs q
theorem call_list_of : CallR X (.type "list") (λ xs H Q => ∃ p ys, xs = [.ref p] /\ (SqL X.K H p ys ∨ SqT X.K H p ys) /\ ∀ l, H l = none -> Q (.ref l) (upd H l (.lst ys))) := by
  intro pins s σ H xs us Q I r h
  obtain ⟨p, ys, rfl, hq, q⟩ := h
  obtain ⟨u, rfl, rx⟩ := vals1 r
  cases rx
  have fin : ∀ (its : List Value), Vals ys its -> ys.length <= sizeLine -> ∀ (h' : Heap) (c' : Nat), (∀ b o', s.heap.get? b = some o' -> h'.get? b = some o') ->
      h'.get? s.heap.objs.size = some { cls := .type "list", dict := none, data := .seq its.toArray c', slots := #[] } -> EP X pins σ Q (.ref s.heap.objs.size) { s with heap := h' } := λ its r' hz h' c' kp e =>
    ⟨.ref s.heap.objs.size, _, I.laid (t' := s.toks) kp (Nat.le_refl _) (show ObjOk X.prog X.w _ h' _ (.lst ys) from ⟨hz, its, c', r', e⟩), rfl, q _ (I.hok.fresh (Nat.le_refl _))⟩
  rcases hq with hq | hq
  . obtain ⟨its, r', pl, hz⟩ := I.list hq
    have hlen := r'.length
    obtain ⟨o, ho, hc, n, hd⟩ := pl.isList
    exact call_list_seq p (.inl rfl) ho hc hd (λ h' c' kp e => fin its r' hz h' c' kp e) (by simp only [List.size_toArray] <;> omega)
  . obtain ⟨its, r', pl, hz⟩ := I.tuple hq
    have hlen := r'.length
    obtain ⟨o, ho, hc, n, hd⟩ := pl
    exact call_list_seq p (.inr rfl) ho hc hd (λ h' c' kp e => fin its r' hz h' c' kp e) (by simp only [List.size_toArray] <;> omega)
theorem call_tuple_of : CallR X (.type "tuple") (λ xs H Q => ∃ p ys, xs = [.ref p] /\ ((SqL X.K H p ys /\ ∀ l, H l = none -> Q (.ref l) (upd H l (.tup ys))) ∨ (SqT X.K H p ys /\ Q (.ref p) H))) := by
  intro pins s σ H xs us Q I r h
  obtain ⟨p, ys, rfl, h⟩ := h
  obtain ⟨u, rfl, rx⟩ := vals1 r
  cases rx
  rcases h with ⟨hq, q⟩ | ⟨hq, q⟩
  . obtain ⟨its, r', pl, hz⟩ := I.list hq
    have hlen := r'.length
    refine call_tuple_list pl.isList (λ h' kp => ?_) (by simp only [List.size_toArray] <;> omega)
    have I1 : Inv X pins σ H { s with heap := h' } := I.kept (t' := s.toks) kp
    have I2 : Inv X pins σ (upd H h'.objs.size (.tup ys)) { s with heap := h'.push { cls := .type "tuple", data := .seq its.toArray } } :=
      I1.laid (t' := s.toks) (λ b o e => Heap.get?_push_of_some _ e) (Nat.le_refl _) (show ObjOk X.prog X.w _ _ _ (.tup ys) from ⟨hz, its, r', IsTup.new _ _⟩)
    exact ⟨.ref h'.objs.size, _, I2, rfl, q _ (I1.hok.fresh (Nat.le_refl _))⟩
  . obtain ⟨its, r', pl, hz⟩ := I.tuple hq
    exact call_tuple_same pl ⟨.ref p, H, I, rfl, q⟩
def tyV (K : PySem.W.Frag) (T : String) (x : V) (H : Hp) : Prop := match x with
  | .str _ => T = "str"
  | .int _ => T = "int"
  | .ref p => (T = "list" /\ ∃ xs, SqL K H p xs) ∨ (T = "tuple" /\ ∃ o, K.lookup p = some o /\ o.cls = .type "tuple" /\ o.dict = none) ∨
      (T = "dict" /\ ((∃ kvs, H p = some (.dK kvs)) ∨ ∃ kvs, H p = some (.dT kvs))) ∨ (T = "set" /\ ∃ S n, H p = some (.set S n))
  | _ => False
theorem tyV_is {pins : List (Addr × Obj)} {σ : St} {H : Hp} {s : Shared} {T : String} {x : V} {v : Value} (I : Inv X pins σ H s) (r : RelV x v) (ty : tyV X.K T x H) :
    s.TypeIs v T /\ ∀ a, v = .ref a -> ∃ ob, s.heap.get? a = some ob /\ ob.dict = none := by
  cases x with
  | str z =>
    obtain ⟨t, rfl⟩ := r
    cases (show T = "str" from ty)
    exact ⟨typeIs_str s z t, λ _ e => nomatch e⟩
  | int i =>
    obtain ⟨t, rfl⟩ := r
    cases (show T = "int" from ty)
    exact ⟨typeIs_int s i t, λ _ e => nomatch e⟩
  | ref p =>
    cases r
    rcases ty with ⟨rfl, xs, hq⟩ | ⟨rfl, o, hk, hc, hd⟩ | ⟨rfl, hk⟩ | ⟨rfl, S, n, hk⟩
    . obtain ⟨its, _, pl, _⟩ := I.list hq
      refine ⟨pl.isList.typeIs, λ a e => ?_⟩
      cases e
      obtain ⟨o, n, e, c, hd, _⟩ := pl
      exact ⟨o, e, hd⟩
    . refine ⟨⟨o, I.kIn p o hk, hc⟩, λ a e => ?_⟩
      cases e
      exact ⟨o, I.kIn _ o hk, hd⟩
    . have z : ∃ o, s.heap.get? p = some o /\ o.ExactDict := by
        rcases hk with ⟨kvs, hk⟩ | ⟨kvs, hk⟩
        . obtain ⟨_, _, _, _, o, _, _, e, ex, _⟩ := I.hok p _ hk
          exact ⟨o, e, ex⟩
        . obtain ⟨_, _, _, _, o, _, _, e, ex, _⟩ := I.hok p _ hk
          exact ⟨o, e, ex⟩
      obtain ⟨o, e, ex⟩ := z
      refine ⟨⟨o, e, ex.1⟩, λ a e2 => ?_⟩
      cases e2
      exact ⟨o, e, ex.2.1⟩
    . obtain ⟨o, _, _, _, e, ex, _⟩ := I.hok p _ hk
      refine ⟨⟨o, e, ex.1⟩, λ a e2 => ?_⟩
      cases e2
      exact ⟨o, e, ex.2.1⟩
  | _ => exact False.elim ty
def tBM (K : PySem.W.Frag) (T : String) (r : V -> List V -> Hp -> VK -> Prop) (to : TE) (t : TA) : TE := λ σ H Q => to σ H λ x H1 => tyV K T x H1 /\ t σ H1 λ xs H2 => r x xs H2 Q
variable {o e : Expr} {es : List Expr} {to : TE} {t : TA} {name : Str} {apos cpos : Pos} {T id : String} {r : V -> List V -> Hp -> VK -> Prop}
theorem pe_bm (pa : PlainAttrs T) (slot : Slot T name id) (hty : typeOf (.builtin id) = pure (.type "method_descriptor")) (hm : MtR X id r) (ho : PE X o to) (ha : PA X (e :: es) t)
    (hbase : attributeBase o name X.env (eval o X.env) = eval o X.env := by rfl)
    (hfew : ((backTo cpos (starEach (e :: es) X.env)).all (λ x => !x.1) && (backToKw cpos (keywordEach [] X.env)).all (λ x => x.1.isSome)
      && decide ((e :: es).length + ([] : List Keyword).length + (if ([] : List Keyword).isEmpty then 0 else 1) < 30)) = true := by rfl)
    (hline : (apos.endLine == cpos.line) = true := by rfl) (hs : starEach (e :: es) X.env = (false, eval e X.env) :: starEach es X.env := by rfl) (hplain : (backTo cpos (starEach es X.env)).any (·.1) = false := by rfl) :
    PE X (.Call (.Attribute o name apos) (e :: es) [] cpos) (tBM X.K T r to t) := by
  intro pins s σ H Q I h
  refine wpAny_Call_method_late hbase hfew hline rfl (thn (ho pins s σ H _ I h) λ v s1 ⟨x, H1, I1, r1, ty, q1⟩ => ?_)
  obtain ⟨h1, h2⟩ := tyV_is I1 r1 ty
  refine ⟨T, id, pa, slot, hty, h1, h2, ?_⟩
  have hA := ha cpos pins s1 σ H1 _ I1 q1
  rw [hs] at hA ⊢
  refine Calls.callWith_builtin (by show (false || (backTo cpos (starEach es X.env)).any (·.1)) = false; rw [hplain] <;> rfl) (Calls.evalArgs_plain ?_)
  exact thn hA λ us s2 ⟨vs, H2, I2, r2, q2⟩ => hm pins s2 σ H2 x vs v us Q I2 r1 r2 q2
end
end L2
namespace L2
open PySem PySem.Spec PyProof.Rows
def MtM (X : Cx) (id : String) (r : V -> List V -> Hp -> VK -> Prop) : Prop :=
  ∀ (pins : List (Addr × Obj)) (s : Shared) (σ : St) (H : Hp) (x : V) (xs : List V) (v : Value) (us : List Value) (Q : VK), Inv X pins σ H s -> RelV x v -> Vals xs us -> r x xs H Q ->
    wpAny (model X.prog X.w) X.A (call (.builtin id) (v :: us)) (EP X pins σ Q) X.xe s
theorem Vals.one : ∀ {x : V} {us : List Value}, Vals [x] us -> ∃ u, us = [u] /\ RelV x u
  | _, _, .cons r .nil => ⟨_, rfl, r⟩
theorem Vals.zero : ∀ {us : List Value}, Vals [] us -> us = []
  | _, .nil => rfl
theorem Vals.dropLast {xs : List V} {us : List Value} (h : Vals xs us) : Vals xs.dropLast us.dropLast := by
  induction h with
  | nil => exact .nil
  | cons r t ih =>
    cases t with
    | nil => exact .nil
    | cons q t' => exact .cons r ih
theorem Vals.eraseIdx : ∀ {xs : List V} {us : List Value} (i : Nat), Vals xs us -> Vals (xs.eraseIdx i) (us.eraseIdx i)
  | _, _, _, .nil => .nil
  | _, _, 0, .cons _ t => t
  | _, _, i + 1, .cons r t => .cons r (Vals.eraseIdx i t)
theorem Vals.reverse {xs : List V} {us : List Value} (h : Vals xs us) : Vals xs.reverse us.reverse := by
  induction h with
  | nil => exact .nil
  | cons r t ih => rw [List.reverse_cons, List.reverse_cons]; exact Vals.append ih (.cons r .nil)
theorem Vals.rep {xs : List V} {us : List Value} (h : Vals xs us) : ∀ k : Nat, Vals (List.replicate k xs).flatten (List.replicate k us).flatten
  | 0 => .nil
  | k + 1 => by
    rw [List.replicate_succ, List.replicate_succ, List.flatten_cons, List.flatten_cons]
    exact Vals.append h (Vals.rep h k)
theorem foldl_rep (its : List Value) : ∀ (k : Nat) (acc : List Value),
    List.foldl (λ x1 x2 => x1 ++ x2) acc.toArray (List.replicate k its.toArray) = (acc ++ (List.replicate k its).flatten).toArray
  | 0, acc => by simp
  | k + 1, acc => by
    have e : acc.toArray ++ its.toArray = (acc ++ its).toArray := by simp
    have e2 : (acc ++ its) ++ (List.replicate k its).flatten = acc ++ (List.replicate (k + 1) its).flatten := by
      rw [List.replicate_succ, List.flatten_cons, List.append_assoc]
    rw [<- e2, <- foldl_rep its k (acc ++ its), <- e, List.replicate_succ, List.foldl_cons]
section
variable {X : Cx} {pins : List (Addr × Obj)} {σ : St} {H : Hp} {s : Shared} {l b : Addr} {xs ys zs : List V}
theorem Inv.lset {its its' : List Value} {n : Nat} {f : Array Value -> Array Value} {t' : Nat} (I : Inv X pins σ H s) (hH : H l = some (.lst xs))
    (e : s.heap.get? l = some { cls := .type "list", data := .seq its.toArray n }) (hf : f its.toArray = its'.toArray) (hv : Vals ys its') (hz : ys.length <= sizeLine) :
    Inv X pins σ (upd H l (.lst ys)) { s with heap := s.heap.update l (Obj.mapSeq f), toks := t' } := by
  have q := PySem.IsL.update e f
  rw [hf] at q
  refine I.write (x := l) (e := l) (by rw [hH]; exact trivial) (.inl rfl) (λ b' u hb hu => (Heap.get?_update_other s.heap (Obj.mapSeq f) (Ne.symm hb)).trans hu) ⟨_, q⟩ ?_
  exact ⟨hz, its', _, hv, q⟩
theorem Inv.lnew {its : List Value} {t' : Nat} (I : Inv X pins σ H s) (hv : Vals ys its) (hz : ys.length <= sizeLine) :
    Inv X pins σ (upd H s.heap.objs.size (.lst ys)) { s with heap := s.heap.push { cls := .type "list", data := .seq its.toArray }, toks := t' } :=
  I.laid (λ _ _ q => Heap.get?_push_of_some _ q) (Nat.le_refl _) ⟨hz, its, 0, hv, Heap.get?_push_size _ rfl⟩
theorem Inv.fresh (I : Inv X pins σ H s) : H s.heap.objs.size = none := I.hok.fresh (Nat.le_refl _)
theorem Inv.lstM (I : Inv X pins σ H s) (hH : H l = some (.lst xs)) : xs.length <= sizeLine /\ ∃ (its : List Value) (n : Nat), Vals xs its /\ xs.length = its.length /\ s.heap.get? l = some { cls := .type "list", data := .seq its.toArray n } := by
  obtain ⟨z, its, n, r, e⟩ := I.hok l _ hH
  exact ⟨z, its, n, r, r.length, e⟩
theorem notLongL {n : Nat} (h : n <= sizeLine) : Builtin.List.listTooLong n = false := by
  unfold Builtin.List.listTooLong
  exact decide_eq_false (by omega)
end
section
variable {X : Cx}
def rAppend : V -> List V -> Hp -> VK -> Prop := λ x vs H Q => ∃ l xs y, x = .ref l /\ vs = [y] /\ H l = some (.lst xs) /\ xs.length < sizeLine /\ Q .non (upd H l (.lst (xs ++ [y])))
theorem mt_append : MtM X "list.append" rAppend := by
  intro pins s σ H x vs v us Q I rx rv h
  obtain ⟨l, xs, y, rfl, rfl, hH, hz, q⟩ := h
  cases rx
  obtain ⟨u, rfl, ru⟩ := rv.one
  obtain ⟨z, its, n, r, hl, e⟩ := I.lstM hH
  refine call_meets F.slot_list_append ⟨_, e, rfl⟩ F.entry_list_append (F.args_list_append_2 _ _) (PySem.list_append l its.toArray n u (by rw [List.size_toArray]; omega)) ⟨e, ?_⟩
  refine ⟨.non, _, I.lset (its' := its ++ [u]) hH e (by simp) (r.append (.cons ru .nil)) ?_, rfl, q⟩
  rw [List.length_append, List.length_singleton]
  omega
def rExtend : V -> List V -> Hp -> VK -> Prop := λ x vs H Q => ∃ l b xs zs, x = .ref l /\ vs = [.ref b] /\ H l = some (.lst xs) /\ H b = some (.lst zs) /\ xs.length + zs.length <= sizeLine /\ Q .non (upd H l (.lst (xs ++ zs)))
theorem mt_extend : MtM X "list.extend" rExtend := by
  intro pins s σ H x vs v us Q I rx rv h
  obtain ⟨l, b, xs, zs, rfl, rfl, hH, hB, hz, q⟩ := h
  cases rx
  obtain ⟨u, rfl, ru⟩ := rv.one
  cases ru
  obtain ⟨z, its, n, r, hl, e⟩ := I.lstM hH
  obtain ⟨z2, its2, n2, r2, hl2, e2⟩ := I.lstM hB
  have hsz : its.toArray.size + its2.toArray.size <= sizeLine := by rw [List.size_toArray, List.size_toArray]; omega
  have hlong : ¬ (!its.toArray.isEmpty && Builtin.List.listTooLong (its.toArray.size + its2.toArray.size)) = true := by
    rw [notLongL hsz, Bool.and_false]
    exact Bool.false_ne_true
  refine call_meets F.slot_list_extend ⟨_, e, rfl⟩ F.entry_list_extend (F.args_list_extend_2 _ _)
    (AutoSeq1.list_extend_list_list_0 l its.toArray n b its2.toArray n2 hlong (by rw [List.size_toArray]; omega) (by omega)) ⟨e, e2, ?_⟩
  refine ⟨.non, _, I.lset (its' := its ++ its2) hH e (by simp) (r.append r2) ?_, rfl, q⟩
  rw [List.length_append]
  omega
def rCat : R2 := λ x y H Q => ∃ l b xs zs, x = .ref l /\ y = .ref b /\ H l = some (.lst xs) /\ H b = some (.lst zs) /\ xs.length + zs.length <= sizeLine /\ ∀ p, H p = none -> Q (.ref p) (upd H p (.lst (xs ++ zs)))
theorem op_cat : OpR X (binaryOp .Add) rCat := by
  intro pins s σ H x y v u Q I rx ry h
  obtain ⟨l, b, xs, zs, rfl, rfl, hH, hB, hz, q⟩ := h
  cases rx
  cases ry
  obtain ⟨z, its, n, r, hl, e⟩ := I.lstM hH
  obtain ⟨z2, its2, n2, r2, hl2, e2⟩ := I.lstM hB
  refine PySem.P.add_list e e2 ?_ (by rw [List.size_toArray, List.size_toArray]; omega)
  have ea : its.toArray ++ its2.toArray = (its ++ its2).toArray := by simp
  rw [ea]
  exact ⟨.ref _, _, I.lnew (t' := s.toks) (r.append r2) (by rw [List.length_append]; omega), rfl, q _ I.fresh⟩
theorem len_rep {α : Type} (xs : List α) (k : Nat) : (List.replicate k xs).flatten.length = k * xs.length := by
  induction k with
  | zero => simp
  | succ k ih => rw [List.replicate_succ, List.flatten_cons, List.length_append, ih, Nat.succ_mul, Nat.add_comm]
end
section
variable {prog : Program} {w : World} {A : Around} {E : Value -> Shared -> Prop} {s : Shared}
end
section
variable {X : Cx}
end
end L2
namespace Att
open PySem PySem.W PySem.Calls PyProof.Rows
theorem ints_of_wellAll {P : Params} {h : Heap} : ∀ (ns : List Int) (vs : List Value), WellAll P h vs (ns.map WData.int) -> IntsAre vs ns := by
  intro ns
  induction ns with
  | nil =>
    intro vs w
    rw [List.map_nil] at w
    cases w
    exact .nil
  | cons n ns ih =>
    intro vs w
    rw [List.map_cons] at w
    cases w with
    | cons a b =>
      cases a
      exact .cons _ _ (ih _ b)
theorem script_of {l : OpenLaw} {n : Nat} (hn : l.most = some n) {P : Params} {h : Heap} {args : List WData} {vals : List Value}
    (hpre : l.row.toRowW.claim.pre args = true) (hwl : WellAll P h vals args) :
    ∃ a vs ns, vals = [Value.ref a] /\ args = [WData.list (ns.map WData.int)] /\ h.get? a = some { cls := .type "list", data := .seq vs.toArray } /\ IntsAre vs ns /\ ns.length <= n := by
  have hsh : WShape.hasAll [] args [.list .int] = true := (pre_splitW hpre).1
  have hc : l.pre.holds [] { args := args } = true := (pre_splitW hpre).2
  obtain ⟨d, r, rfl, h1, h2⟩ := hasAllW_cons hsh
  obtain rfl := hasAllW_nil h2
  obtain ⟨xs, rfl, h3⟩ := hasW_list h1
  obtain ⟨ns, rfl⟩ := items_int h3
  have hlen : ns.length <= n := by
    unfold OpenLaw.pre at hc
    have h4 : (WTm.not (.lt (.lit (.int (n : Int))) (.len (.arg 0)))).holds [] { args := [.list (ns.map .int)] } = true := by
      have h4 := (holds_andW hc).1
      rw [hn] at h4
      exact h4
    have h5 := condW_of h4 (w_not (w_lt w_lit (w_len_list (w_arg rfl))))
    rw [List.length_map] at h5
    refine Nat.le_of_not_lt λ q => ?_
    have q' : (n : Int) < ((ns.length : Nat) : Int) := by omega
    first
      | (rw [decide_eq_true q'] at h5; exact absurd h5 (by decide))
      | (simp at h5; omega)
  cases hwl with
  | cons w1 w2 =>
    cases w2
    cases w1 with
    | list ho hall => exact ⟨_, _, ns, rfl, rfl, ho, ints_of_wellAll ns _ hall, hlen⟩
theorem post_true (l : OpenLaw) (args : List WData) : l.row.toRowW.claim.post args (.bool true) args = true :=
  postW_of (r := l.row.toRowW) (X := (true == true))
    (show WShape.has [] (.bool true) .bool = true by first | rfl | decide | simp [WShape.has, WShape.arms, WShape.armsAll])
    (show (WTm.eq .res (.lit (.bool true))).value [] { args := args, res := some (.bool true), after := args } = some (.bool (true == true)) from w_eq_bool (w_res rfl) w_lit) rfl
theorem attach_call {l : OpenLaw} {n : Nat} {q : Program} {loose : List Str} {XP : (Str -> Option Value) -> Heap -> Prop} {YP : World -> Heap -> Prop} {d : DefRec}
    (hn : l.most = some n) (hdf : d.params.defaults = [])
    (call : ∀ (w : World) (s₀ s₁ : Shared) (mg mb : Str -> Option Value) (fa : Addr) (o : Obj) (pm cd doc : Value) (a : Addr) (vs : List Value) (ns : List Int),
      Ground q loose [] XP w s₀ mg mb s₁.heap -> YP w s₁.heap ->
      s₁.heap.get? fa = some o -> o.data = .func (docDef d.name d.params d.body d.scope pm cd doc) -> s₁.heap.CodeRec cd d.name -> mg d.name = some (.ref fa) ->
      s₁.heap.get? a = some { cls := .type "list", data := .seq vs.toArray } -> IntsAre vs ns -> ns.length <= n -> s₁.gens = #[] ->
      codeAny (model l.prog w) callerA (.call (.ref fa) ⟨[.ref a], []⟩) (λ r s' => r = .ok (.ret (.bool true)) /\ OldK s₁.heap s'.heap /\ s'.os = s₁.os /\ AllBare s'.gens) s₁) :
    WalkO q loose XP YP l.row.toRowW d [] (λ f vs => PySem.call f vs) := by
  intro w s₀ s₁ mg mb G Y fa o pm cd doc dV kV ho hd hcd hD hmg hg args vals as hpre hlay hrd hwl hlo
  obtain rfl : dV = .none := Dflts.none hD hdf
  obtain rfl : kV = .none := Dflts.noKw hD
  obtain ⟨a, vs, ns, rfl, rfl, hobj, hints, hlen⟩ := script_of hn hpre hwl
  refine enter_call (codeAny_mono (call w s₀ s₁ mg mb fa o pm cd doc a vs ns G Y ho (fd_plain hd) hcd hmg hobj hints hlen hg) λ r s' hq => ?_)
  obtain ⟨rfl, h2, h3, h4⟩ := hq
  exact ⟨.inl ⟨.bool true, .bool true, [], rfl, λ _ => rfl, .bool true, post_true l _, λ _ => ⟨List.Pairwise.nil, λ _ hm => (nomatch hm)⟩⟩, h2, h3, h4⟩
section
variable {prog : Program} {w : World} {A : Around} {E : Value -> Shared -> Prop} {s : Shared} {K : Frag}
end
end Att
namespace L2
open PySem PySem.Spec PyProof.Rows
theorem vals_ints : ∀ {vs : List Value} {ns : List Int}, IntsAre vs ns -> Vals (ns.map V.int) vs
  | _, _, .nil => .nil
  | _, _, .cons n t h => .cons ⟨t, rfl⟩ (vals_ints h)
end L2
namespace L2
open PySem PySem.Spec PyProof.Rows
end L2
namespace L2
open PySem PySem.Spec PyProof.Rows
def defArgs (s : Stmt) : Arguments := match s with
  | .FunctionDef _ a _ _ _ _ _ _ _ _ => a
  | _ => { posonlyargs := [], args := [], vararg := none, kwonlyargs := [], kw_defaults := [], kwarg := none, defaults := [] }
def defBody (s : Stmt) : List Stmt := match s with
  | .FunctionDef _ _ b _ _ _ _ _ _ _ => b
  | _ => []
def defScope (s : Stmt) : Scope := match s with
  | .FunctionDef _ _ _ _ _ _ sc _ _ _ => sc
  | _ => { kind := .function, names := [], isGenerator := false, isCoroutine := false }
abbrev CX0 : CXT := λ _ _ _ _ _ _ => False
abbrev E0 : XK := λ _ _ _ => False
theorem pass0 {X : Cx} : Passes CX0 X E0 := λ _ _ _ _ _ _ _ h => h.elim
structure Fun (K : PySem.W.Frag) (x qual : Str) (st : Stmt) (f : Addr) (fd : FuncData) : Prop where
  ex : ∃ (oc : Value) (od : Option Addr) (kV doc pm : Value) (an : Option Addr) (cdv ct : Value) (osl : Array (Option Value)),
    fd = PySem.W.fnOf x qual (defArgs st) (defBody st) (defScope st) .none kV doc pm an cdv ct /\ K.lookup f = some ⟨oc, od, .func fd, osl⟩ /\ PySem.W.codeIn K cdv qual = true
  kp : PySem.W.keepIn K (.ref f) = true
section
variable {P : Program} {w : World} {K : PySem.W.Frag} {mg : Str -> Option Value} {base : Heap}
theorem Fun.ok {x qual : Str} {st : Stmt} {f : Addr} {fd : FuncData} {N ps : List Str} {k : Nat} {sp : Sp} (F : Fun K x qual st f fd) (S : FnScope N ps (defScope st)) (len : ∀ vs H Q E, sp vs H Q E -> vs.length = ps.length)
    (hbody : ∀ (cdv : Value) (A : Around) (outer : List Env) (s : Shared) (H : Hp) (vs : List V) (Q : VK) (E : XK), Room k (A.deeper (envOfC qual (defScope st) s.heap.objs.size f cdv)) -> sp vs H Q E ->
      ∃ t, PSs (cxOf CX0 P w K mg base N qual (defScope st) f cdv A outer s H E).nox (defBody st) t /\ t { nx := λ _ H' => Q .non H', rt := Q } (start N vs) H) : FnOk P w K mg base CX0 (k + 1) f fd ps sp := by
  obtain ⟨oc, od, kV, doc, pm, an, cdv, ct, osl, rfl, lk, hcd⟩ := F.ex
  refine fn_of lk hcd S len λ A outer s H vs Q E hr hsp => ?_
  obtain ⟨t, h, q⟩ := hbody cdv A outer s H vs Q E hr hsp
  exact ⟨t, h.nox, q⟩
theorem Fun.binds {x qual : Str} {st : Stmt} {f : Addr} {fd : FuncData} {ps : List Str} (F : Fun K x qual st f fd)
    (h : ∀ (kV doc pm : Value) (an : Option Addr) (cdv ct : Value) (us : List Value), us.length = ps.length -> bindArgs (PySem.W.fnOf x qual (defArgs st) (defBody st) (defScope st) .none kV doc pm an cdv ct) ⟨us, []⟩ = pure (ps.zip us)) : Binds K fd ps [] := by
  obtain ⟨oc, od, kV, doc, pm, an, cdv, ct, osl, rfl, lk, hcd⟩ := F.ex
  exact .all (h kV doc pm an cdv ct)
theorem fun_mk {x qual : Str} {st : Stmt} {f : Addr} {oc : Value} {od an : Option Addr} {osl : Array (Option Value)} {kV doc pm cdv ct : Value} (l : K.lookup f = some ⟨oc, od, .func (PySem.W.fnOf x qual (defArgs st) (defBody st) (defScope st) .none kV doc pm an cdv ct), osl⟩)
    (c : PySem.W.codeIn K cdv qual = true) (k : PySem.W.keepIn K (.ref f) = true) : Fun K x qual st f (PySem.W.fnOf x qual (defArgs st) (defBody st) (defScope st) .none kV doc pm an cdv ct) := ⟨⟨oc, od, kV, doc, pm, an, cdv, ct, osl, rfl, l, c⟩, k⟩
end
theorem hu_of {A : Around} {k : Nat} (hr : Room k A) : A.units + 1 < cLine := Nat.lt_of_le_of_lt (Nat.add_le_add_left (by decide : 1 <= 64) _) hr.units
theorem small1000 {n : Nat} (h : n <= 1000) : n < sizeLine := Nat.lt_of_le_of_lt h (by decide)
section
variable {X : Cx}
theorem pv (i : Nat) {x : Str} {pos : Pos} (hN : X.N[i]? = some x := by rfl) (hv : Vis X.env.scope x := by first | exact Or.inl rfl | exact Or.inr (Or.inl rfl) | exact Or.inr (Or.inr rfl)) (hd : (x == ("__debug__" : Str)) = false := by decide)
    (hcd : (x == ("__classdict__" : Str)) = false := by decide) : PE X (.Name x pos) (tVar i) := pe_var hN hv hd hcd
end
def Same (H H' : Hp) : Prop := ∀ b o, H b = some o -> H' b = some o
theorem Same.trans {H H1 H2 : Hp} (a : Same H H1) (b : Same H1 H2) : Same H H2 := λ c o h => b c o (a c o h)
theorem Same.free {H H' : Hp} (e : Same H H') {l : Addr} (h : H' l = Option.none) : H l = Option.none := by
  cases q : H l with
  | none => rfl
  | some o =>
    rw [e l o q] at h
    cases h
theorem Same.seq {K : PySem.W.Frag} {H H' : Hp} {a : Addr} {xs : List V} (e : Same H H') (h : SqL K H a xs) : SqL K H' a xs := by
  rcases h with (h | ⟨o, h⟩) | h
  . exact .inl (.inl (e _ _ h))
  . exact .inl (.inr ⟨o, e _ _ h⟩)
  . exact .inr h
end L2
namespace L2
open PySem PySem.Spec PyProof.Rows
section
variable {κ : Type} [DecidableEq κ]
def valV (kvs : List (κ × V)) (k : κ) : Option V := (kvs.find? λ kv => decide (kv.1 = k)).map (·.2)
def putK (kvs : List (κ × V)) (k : κ) (v : V) : List (κ × V) :=
  if (kvs.any λ kv => decide (kv.1 = k)) = true then kvs.map (λ kv => if kv.1 = k then (kv.1, v) else kv) else kvs ++ [(k, v)]
theorem valV_pos {p : κ × V} {r : List (κ × V)} {k : κ} (e : p.1 = k) : valV (p :: r) k = some p.2 := by simp [valV, List.find?_cons, e]
theorem valV_neg {p : κ × V} {r : List (κ × V)} {k : κ} (e : ¬ p.1 = k) : valV (p :: r) k = valV r k := by simp [valV, List.find?_cons, e]
theorem valV_any (k : κ) : ∀ kvs : List (κ × V), (kvs.any λ kv => decide (kv.1 = k)) = (valV kvs k).isSome
  | [] => rfl
  | p :: r => by
    rw [List.any_cons]
    by_cases e : p.1 = k
    . simp only [valV_pos e, decide_eq_true e, Bool.true_or, Option.isSome_some]
    . rw [valV_neg e, decide_eq_false e, Bool.false_or]; exact valV_any k r
theorem length_putK (kvs : List (κ × V)) (k : κ) (v : V) : (putK kvs k v).length <= kvs.length + 1 := by
  unfold putK
  split
  . rw [List.length_map]; omega
  . rw [List.length_append, List.length_cons, List.length_nil]; omega
theorem RelO.isSome_eq {o : Option V} {u : Option Value} (r : RelO o u) : o.isSome = u.isSome := by
  cases o with
  | none => cases u with
    | none => rfl
    | some _ => exact (show False from r).elim
  | some _ => cases u with
    | none => exact (show False from r).elim
    | some _ => rfl
theorem RelO.getD {o : Option V} {u : Option Value} {d : V} {d' : Value} (r : RelO o u) (rd : RelV d d') : RelV (o.getD d) (u.getD d') := by
  cases o with
  | none => cases u with
    | none => exact rd
    | some _ => exact (show False from r).elim
  | some _ => cases u with
    | none => exact (show False from r).elim
    | some _ => exact r
theorem KV.val {kvs : List (κ × V)} {vs : List (κ × Value)} (r : KV kvs vs) (k : κ) : RelO (valV kvs k) (valueAt vs k) := by
  unfold KV at r
  induction r with
  | nil => exact True.intro
  | @cons p q ps qs h t ih =>
    obtain ⟨h1, h2⟩ := h
    by_cases e : p.1 = k
    . have e' : q.1 = k := h1.symm.trans e
      have b : valueAt (q :: qs) k = some q.2 := by simp [valueAt, List.find?_cons, e']
      rw [valV_pos e, b]; exact h2
    . have e' : ¬ q.1 = k := λ z => e (h1.trans z)
      have b : valueAt (q :: qs) k = valueAt qs k := by simp [valueAt, List.find?_cons, e']
      rw [valV_neg e, b]; exact ih
theorem KV.any {kvs : List (κ × V)} {vs : List (κ × Value)} (r : KV kvs vs) (k : κ) : (kvs.any λ kv => decide (kv.1 = k)) = vs.any λ kv => decide (kv.1 = k) := by
  unfold KV at r
  induction r with
  | nil => rfl
  | cons h t ih => rw [List.any_cons, List.any_cons, ih, h.1]
theorem KV.repl {kvs : List (κ × V)} {vs : List (κ × Value)} (r : KV kvs vs) (k : κ) {y : V} {u : Value} (ry : RelV y u) :
    KV (kvs.map λ kv => if kv.1 = k then (kv.1, y) else kv) (vs.map λ kv => if kv.1 = k then (kv.1, u) else kv) := by
  unfold KV at r ⊢
  induction r with
  | nil => exact .nil
  | @cons p q ps qs h t ih =>
    rw [List.map_cons, List.map_cons]
    refine .cons ?_ ih
    obtain ⟨h1, h2⟩ := h
    by_cases e : p.1 = k
    . rw [if_pos e, if_pos (h1.symm.trans e)]; exact ⟨h1, ry⟩
    . rw [if_neg e, if_neg (λ z => e (h1.trans z))]; exact ⟨h1, h2⟩
theorem KV.put {kvs : List (κ × V)} {vs : List (κ × Value)} (r : KV kvs vs) (k : κ) {y : V} {u : Value} (ry : RelV y u) : KV (putK kvs k y) (stored vs k u) := by
  unfold putK stored
  rw [r.any k]
  by_cases e : (vs.any λ kv => decide (kv.1 = k)) = true
  . rw [if_pos e, if_pos e]; exact r.repl k ry
  . rw [if_neg e, if_neg e]; exact Paired.snoc r ⟨rfl, ry⟩
theorem KV.keys {kvs : List (κ × V)} {vs : List (κ × Value)} (r : KV kvs vs) : kvs.map (·.1) = vs.map (·.1) := by
  unfold KV at r
  induction r with
  | nil => rfl
  | cons h t ih => rw [List.map_cons, List.map_cons, ih, h.1]
theorem KV.length {kvs : List (κ × V)} {vs : List (κ × Value)} (r : KV kvs vs) : kvs.length = vs.length := Paired.length r
end
theorem kV_is {P : Program} {w : World} {k : Key} {u : Value} (r : RelV (kV k) u) : (mixKind P w).is k u = true := by
  cases k with
  | inl i => obtain ⟨t, e⟩ := (show ∃ t, u = Value.int i t from r); subst e; exact mixKind_int P w i t
  | inr x => obtain ⟨t, e⟩ := (show ∃ t, u = Value.str x t from r); subst e; exact mixKind_str P w x t
theorem items_are {P : Program} {w : World} : ∀ {ks : List Key} {us : List Value}, Vals (ks.map kV) us -> ItemsAre (mixKind P w) ks us
  | [], _, r => by rw [List.map_nil] at r; cases r; exact .nil
  | k :: ks, _, r => by
    rw [List.map_cons] at r
    cases r with
    | cons h t => exact .cons (kV_is h) (items_are t)
abbrev KT (H : Hp) : List (List Key × V) -> List (List Key × Addr × Value) -> Prop := Paired λ p q => p.1 = q.1 /\ H q.2.1 = some (.tup (p.1.map kV)) /\ RelV p.2 q.2.2
theorem KT.val {H : Hp} {kvs : List (List Key × V)} {xs : List (List Key × Addr × Value)} (r : KT H kvs xs) (k : List Key) : RelO (valV kvs k) ((atKey xs k).map (·.2)) := by
  induction r with
  | nil => exact True.intro
  | @cons p q ps qs h t ih =>
    obtain ⟨h1, _, h2⟩ := h
    by_cases e : p.1 = k
    . have e' : q.1 = k := h1.symm.trans e
      have b : atKey (q :: qs) k = some q.2 := by simp [atKey, List.find?_cons, e']
      rw [valV_pos e, b]; exact h2
    . have e' : ¬ q.1 = k := λ z => e (h1.trans z)
      have b : atKey (q :: qs) k = atKey qs k := by simp [atKey, List.find?_cons, e']
      rw [valV_neg e, b]; exact ih
theorem KT.repl {H : Hp} {kvs : List (List Key × V)} {xs : List (List Key × Addr × Value)} (r : KT H kvs xs) (k : List Key) {y : V} {u : Value} (ry : RelV y u) :
    KT H (kvs.map λ kv => if kv.1 = k then (kv.1, y) else kv) (xs.map (putAt k u)) := by
  induction r with
  | nil => exact .nil
  | @cons p q ps qs h t ih =>
    rw [List.map_cons, List.map_cons]
    refine .cons ?_ ih
    obtain ⟨h1, h2, h3⟩ := h
    unfold putAt
    by_cases e : p.1 = k
    . rw [if_pos e, if_pos (h1.symm.trans e)]; exact ⟨h1, h2, ry⟩
    . rw [if_neg e, if_neg (λ z => e (h1.trans z))]; exact ⟨h1, h2, h3⟩
theorem KT.put {H : Hp} {kvs : List (List Key × V)} {xs : List (List Key × Addr × Value)} (r : KT H kvs xs) (k : List Key) {b : Addr} {y : V} {u : Value} (hb : H b = some (.tup (k.map kV))) (ry : RelV y u) :
    KT H (putK kvs k y) (storedH xs k b u) := by
  have e : (kvs.any λ kv => decide (kv.1 = k)) = (atKey xs k).isSome := by
    rw [valV_any, (r.val k).isSome_eq, Option.isSome_map]
  unfold putK storedH
  rw [e]
  by_cases q : (atKey xs k).isSome = true
  . rw [if_pos q, if_pos q]; exact r.repl k ry
  . rw [if_neg q, if_neg q]; exact Paired.snoc r ⟨rfl, hb, ry⟩
theorem KT.keeps {H H' : Hp} {kvs : List (List Key × V)} {xs : List (List Key × Addr × Value)} (r : KT H kvs xs) (ht : ∀ b ys, H b = some (.tup ys) -> H' b = some (.tup ys)) : KT H' kvs xs :=
  Paired.mapP r λ _ _ z => ⟨z.1, ht _ _ z.2.1, z.2.2⟩
section
variable {P : Program} {w : World} {H : Hp} {h : Heap} {a : Addr}
theorem rd_of {u : HO} (ok : HOk P w H h) (e : Rd H a u) : ObjOk P w H h a u := e.ok ok
theorem dk_rd {kvs : List (Key × V)} (ok : HOk P w H h) (e : Rd H a (.dK kvs)) : kvs.length <= sizeLine /\ (a == sysModules) = false /\ ∃ vs, KV kvs vs /\ h.DictOf (mixKind P w) a vs :=
  show ObjOk P w H h a (.dK kvs) from rd_of ok e
theorem dk_of {kvs : List (Key × V)} (ok : HOk P w H h) (e : H a = some (.dK kvs)) : kvs.length <= sizeLine /\ (a == sysModules) = false /\ ∃ vs, KV kvs vs /\ h.DictOf (mixKind P w) a vs := dk_rd ok (.inl e)
theorem key_of {ks : List Key} (ok : HOk P w H h) (e : H a = some (.tup (ks.map kV))) : (tupleKind (mixKind P w)).is h ks a := by
  obtain ⟨_, its, r, o, h1, h2, n, h3⟩ := (show ObjOk P w H h a (.tup (ks.map kV)) from ok a _ e)
  exact ⟨o, its.toArray, n, h1, h2, h3, by simpa using items_are r⟩
theorem dt_rd {kvs : List (List Key × V)} (ok : HOk P w H h) (e : Rd H a (.dT kvs)) : kvs.length <= sizeLine /\ (a == sysModules) = false /\
    ∃ xs, KT H kvs xs /\ h.DictOfH (tupleKind (mixKind P w)) a xs := by
  obtain ⟨z, y, xs, r, o, es, ep, h1, h2, h3, h4, h5⟩ := (show ObjOk P w H h a (.dT kvs) from rd_of ok e)
  refine ⟨z, y, xs, r, o, es, ep, h1, h2, h3, h4, λ x hx => ?_, h5⟩
  have all : ∀ {l : List (List Key × V)} {m : List (List Key × Addr × Value)}, KT H l m -> ∀ x ∈ m, (tupleKind (mixKind P w)).is h x.1 x.2.1 := by
    intro l m q
    induction q with
    | nil => intro x hx; exact nomatch hx
    | @cons p q ps qs hq t ih =>
      intro x hx
      rcases List.mem_cons.mp hx with e | hx
      . subst e
        exact key_of ok (by rw [<- hq.1]; exact hq.2.1)
      . exact ih x hx
  exact all r x hx
theorem dt_of {kvs : List (List Key × V)} (ok : HOk P w H h) (e : H a = some (.dT kvs)) : kvs.length <= sizeLine /\ (a == sysModules) = false /\
    ∃ xs, KT H kvs xs /\ h.DictOfH (tupleKind (mixKind P w)) a xs := dt_rd ok (.inl e)
end
def DGet (H : Hp) (a : Addr) (y : V) (r : Option V) : Prop :=
  (∃ kvs k, Rd H a (.dK kvs) /\ y = kV k /\ r = valV kvs k) ∨ ∃ kvs k b, Rd H a (.dT kvs) /\ y = .ref b /\ H b = some (.tup (k.map kV)) /\ r = valV kvs k
def DPut (H : Hp) (a : Addr) (y v : V) (H' : Hp) : Prop :=
  (∃ kvs k, H a = some (.dK kvs) /\ y = kV k /\ kvs.length < sizeLine /\ H' = upd H a (.dK (putK kvs k v))) ∨
  ∃ kvs k b, H a = some (.dT kvs) /\ y = .ref b /\ H b = some (.tup (k.map kV)) /\ kvs.length < sizeLine /\ H' = upd H a (.dT (putK kvs k v))
theorem DGet.k {H : Hp} {a : Addr} {kvs : List (Key × V)} {k : Key} (e : H a = some (.dK kvs)) : DGet H a (kV k) (valV kvs k) := .inl ⟨kvs, k, .inl e, rfl, rfl⟩
theorem DGet.t {H : Hp} {a b : Addr} {kvs : List (List Key × V)} {k : List Key} (e : H a = some (.dT kvs)) (eb : H b = some (.tup (k.map kV))) : DGet H a (.ref b) (valV kvs k) := .inr ⟨kvs, k, b, .inl e, rfl, eb, rfl⟩
theorem DPut.k {H : Hp} {a : Addr} {kvs : List (Key × V)} {k : Key} {v : V} (e : H a = some (.dK kvs)) (hl : kvs.length < sizeLine) : DPut H a (kV k) v (upd H a (.dK (putK kvs k v))) := .inl ⟨kvs, k, e, rfl, hl, rfl⟩
theorem DPut.t {H : Hp} {a b : Addr} {kvs : List (List Key × V)} {k : List Key} {v : V} (e : H a = some (.dT kvs)) (eb : H b = some (.tup (k.map kV))) (hl : kvs.length < sizeLine) :
    DPut H a (.ref b) v (upd H a (.dT (putK kvs k v))) := .inr ⟨kvs, k, b, e, rfl, eb, hl, rfl⟩
section
variable {X : Cx} {pins : List (Addr × Obj)} {σ : St} {H : Hp} {s : Shared} {a : Addr} {y v : V} {u r : Value} {o : Option V} {A : Around} {E : Value -> Shared -> Prop}
theorem Inv.big (I : Inv X pins σ H s) : sysModules < s.heap.objs.size := by
  have h : mainGlobals < s.heap.objs.size := (I.mod.glob.keeps I.bk).lt
  exact Nat.lt_trans (by decide) h
theorem d_getItem {Q : Value -> Shared -> Prop} (hu : A.units + 1 < cLine) (I : Inv X pins σ H s) (g : DGet H a y (some v)) (ry : RelV y u) (h : ∀ w' s', Inv X pins σ H s' -> RelV v w' -> Q w' s') :
    wpAny (model X.prog X.w) A (getItem (.ref a) u) Q E s := by
  rcases g with ⟨kvs, k, e, ey, l⟩ | ⟨kvs, k, b, e, ey, eb, l⟩
  . subst ey
    obtain ⟨z, hd, vs, rel, dd⟩ := dk_rd I.hok e
    obtain ⟨w', hw, rw'⟩ := RelO.some_of (v := v) (o := valueAt vs k) (by rw [l]; exact rel.val k)
    exact wpAny_getItem_of (kV_is ry) dd.mapOf hw (h w' _ (I.tok _) rw')
  . subst ey
    cases (show u = Value.ref b from ry)
    obtain ⟨z, hd, xs, rel, dd⟩ := dt_rd I.hok e
    obtain ⟨w', hw, rw'⟩ := RelO.some_of (v := v) (o := (atKey xs k).map (·.2)) (by rw [l]; exact rel.val k)
    obtain ⟨p, hp, hp2⟩ := Option.map_eq_some_iff.mp hw
    refine wpAny_getItem_heap (tupleKind_room_in1 hu) (key_of I.hok eb) dd hp ?_
    rw [hp2]
    exact h w' _ (I.tok _) rw'
theorem d_write {h' : Heap} {t' : Nat} {ob : HO} (I : Inv X pins σ H s) (mu : Mut (H a)) (hs : Heap.SameBut a s.heap h') (he : ∃ q, h'.get? a = some q) (new : ObjOk X.prog X.w (upd H a ob) h' a ob) :
    Inv X pins σ (upd H a ob) { s with heap := h', toks := t' } :=
  I.write (x := a) (e := a) mu (.inl rfl) (λ b q hb z => (hs.2 b hb).trans z) he new
theorem dk_new {P : Program} {w : World} {H' : Hp} {h' : Heap} {kvs : List (Key × V)} {vs : List (Key × Value)} (z : kvs.length <= sizeLine) (hd : (a == sysModules) = false) (rel : KV kvs vs) (dd : h'.DictOf (mixKind P w) a vs) :
    ObjOk P w H' h' a (.dK kvs) := ⟨z, hd, vs, rel, dd⟩
theorem d_setItem {H' : Hp} {Q : Unit -> Shared -> Prop} (hu : A.units + 1 < cLine) (I : Inv X pins σ H s) (g : DPut H a y v H') (ry : RelV y u) (rv : RelV v r) (h : ∀ s', Inv X pins σ H' s' -> Q () s') :
    wpAny (model X.prog X.w) A (setItem (.ref a) u r) Q E s := by
  rcases g with ⟨kvs, k, e, ey, l, eH⟩ | ⟨kvs, k, b, e, ey, eb, l, eH⟩
  . subst ey eH
    obtain ⟨z, hd, vs, rel, dd⟩ := dk_of I.hok e
    have hz : vs.length <= sizeLine := by rw [<- rel.length]; exact z
    have hl : (putK kvs k v).length <= sizeLine := by have := length_putK kvs k v; omega
    refine wpAny_setItem_pairs (hsz := hz) (kV_is ry) dd λ h' dd' hs => h _ ?_
    have he : ∃ q, h'.get? a = some q := let ⟨q, _, _, hq, _⟩ := dd'; ⟨q, hq⟩
    exact d_write I (by rw [e]; exact True.intro) hs he (dk_new hl hd (rel.put k rv) dd')
  . subst ey eH
    cases (show u = Value.ref b from ry)
    obtain ⟨z, hd, xs, rel, dd⟩ := dt_of I.hok e
    have hz : xs.length <= sizeLine := by rw [<- Paired.length rel]; exact z
    have hl : (putK kvs k v).length <= sizeLine := by have := length_putK kvs k v; omega
    refine wpAny_setItem_heap (hsz := hz) (tupleKind_room_in1 hu) (key_of I.hok eb) dd λ h' dd' hs => h _ ?_
    obtain ⟨q, es, ep, hq, h2, h3, h4, _, h5⟩ := dd'
    refine d_write I (by rw [e]; exact True.intro) hs ⟨q, hq⟩ ⟨hl, hd, _, (rel.put k eb rv).keeps λ c ys ec => ?_, q, es, ep, hq, h2, h3, h4, h5⟩
    rw [upd_ne (ne_of ec e (λ z => nomatch z))]
    exact ec
end
section
variable {X : Cx} {pins : List (Addr × Obj)} {σ : St} {H : Hp} {s : Shared} {a : Addr} {kvs : List (Key × V)} {k : Key} {u : Value} {A : Around} {E : Value -> Shared -> Prop}
end
def NoSl (i : Expr) : Prop := ∀ ov iv, subscripted i false ov iv = operate [ov, iv] (getItem ov iv)
theorem subD_of {prog : Program} {w : World} {A : Around} {E : Value -> Shared -> Prop} {s : Shared} {env : Env} {value slice : Expr} {pos : Pos} {T id : String} {Q : Value -> Shared -> Prop}
    (hl : typeLookup (.type T) "__getitem__" = pure (some (.builtin id))) (hs : NoSl slice)
    (h : wpAny (model prog w) A (eval value env) (λ o s₁ => wpAny (model prog w) A (eval slice env) (λ i s₂ => s₂.TypeIs o T /\ wpAny (model prog w) A (getItem o i) Q E s₂) E s₁) E s) :
    wpAny (model prog w) A (eval (.Subscript value slice pos) env) Q E s := by
  refine Subscript_ (wpAny_mono h (λ o s₁ h₁ => wpAny_mono h₁ (λ i s₂ h₂ => ?_) λ _ _ x => x) λ _ _ x => x)
  obtain ⟨hT, h₂⟩ := h₂
  unfold subscriptTail
  refine wpAny_bind ?_
  rw [getitemInPython_of_ne hT.not_modules]
  refine wpAny_bind (wpAny_specialOf hT hl ?_)
  have fin : wpAny (model prog w) A (subscripted slice false o i) (λ r s₃ => wpAny (model prog w) A (letTemporaryGo value o r >>= λ _ => pure r) Q E s₃) E s₂ := by
    rw [hs o i]
    exact wpAny_operating (wpAny_mono h₂ (λ r s₃ h₃ => wpAny_bind (wpAny_letTemporaryGo (wpAny_pure h₃))) λ _ _ x => x)
  first
    | exact wpAny_pure (wpAny_bind fin)
    | exact wpAny_bind (wpAny_pure (wpAny_bind fin))
    | exact wpAny_bind fin
theorem dict_typeIs {X : Cx} {pins : List (Addr × Obj)} {σ : St} {H : Hp} {s : Shared} {a : Addr} {y : V} {o : Option V} (I : Inv X pins σ H s) (g : DGet H a y o) : s.TypeIs (.ref a) "dict" := by
  rcases g with ⟨kvs, k, e, _, _⟩ | ⟨kvs, k, b, e, _, _, _⟩
  . obtain ⟨_, _, vs, _, dd⟩ := dk_rd I.hok e
    exact dd.typeIs
  . obtain ⟨_, _, xs, _, dd⟩ := dt_rd I.hok e
    exact dd.typeIs
def tDGet (td ty : TE) : TE := λ σ H Q => td σ H λ x H1 => ty σ H1 λ y H2 => ∃ a v, x = .ref a /\ DGet H2 a y (some v) /\ Q v H2
def sDPut (td ty tv : TE) : TS := λ D σ H => tv σ H λ v H1 => td σ H1 λ x H2 => ty σ H2 λ y H3 => ∃ a H4, x = .ref a /\ DPut H3 a y v H4 /\ D.nx σ H4
section
variable {X : Cx} {o i e value : Expr} {pos pos' tpos : Pos} {td ty tv : TE}
theorem pe_dget (hu : X.A.units + 1 < cLine) (ho : PE X o td) (hi : PE X i ty) (hs : NoSl i) : PE X (.Subscript o i pos) (tDGet td ty) := by
  intro pins s σ H Q I h
  refine subD_of PySem.F.slot_dict_getitem.lookup hs (thn (ho pins s σ H _ I h) λ u s1 ⟨x, H1, I1, rx, q1⟩ => thn (hi pins s1 σ H1 _ I1 q1) λ iv s2 ⟨y, H2, I2, ry, a, v, ex, g, q2⟩ => ?_)
  subst ex
  obtain rfl : u = Value.ref a := rx
  exact ⟨dict_typeIs I2 g, d_getItem hu I2 g ry λ w' s3 I3 rw' => ⟨v, H2, I3, rw', q2⟩⟩
theorem ps_dput (hu : X.A.units + 1 < cLine) (ho : PE X o td) (hi : PE X i ty) (hv : PE X value tv) (hs : swapsWith value (some (.Subscript o i pos')) pos.line X.env = pure false) :
    PS X (.Assign [.Subscript o i pos'] value pos) (sDPut td ty tv) := by
  intro pins s σ H D I h
  refine wpAny_Assign_Subscript (thn (hv pins s σ H _ I h) λ r s1 ⟨v, H1, I1, rv, q1⟩ => thn (ho pins s1 σ H1 _ I1 q1) λ u s2 ⟨x, H2, I2, rx, q2⟩ => thn (hi pins s2 σ H2 _ I2 q2) λ iv s3 ⟨y, H3, I3, ry, a, H4, ex, g, q3⟩ => ?_) hs
  subst ex
  obtain rfl : u = Value.ref a := rx
  exact d_setItem hu I3 g ry rv λ s4 I4 => ⟨σ, H4, I4, q3⟩
end
theorem dk_empty {P : Program} {w : World} {H : Hp} (h : Heap) (hb : sysModules < h.objs.size) : ObjOk P w H (h.push { cls := .type "dict", data := .dict #[] }) h.objs.size (.dK []) :=
  ⟨Nat.zero_le _, beq_eq_false_iff_ne.mpr (Ne.symm (Nat.ne_of_lt hb)), [], .nil, Heap.DictOf.new h⟩
section
variable {X : Cx} {pos : Pos}
end
def tPairs : List (TE × TE) -> St -> Hp -> (List (V × V) -> Hp -> Prop) -> Prop
  | [], _, H, Q => Q [] H
  | (tk, tv) :: r, σ, H, Q => tk σ H λ x H1 => tv σ H1 λ y H2 => tPairs r σ H2 λ ps H3 => Q ((x, y) :: ps) H3
abbrev VV : List (V × V) -> List (Value × Value) -> Prop := Paired λ p q => RelV p.1 q.1 /\ RelV p.2 q.2
def PPs (X : Cx) (pos : Pos) (keys : List (Option Expr)) (values : List Expr) (trs : List (TE × TE)) : Prop :=
  ∀ (pins : List (Addr × Obj)) (s : Shared) (σ : St) (H : Hp) (Q : List (V × V) -> Hp -> Prop), Inv X pins σ H s -> tPairs trs σ H Q ->
    wpAny (model X.prog X.w) X.A (evalPairs (pairTrees keys values X.env pos)) (λ vs s' => ∃ ps H', Inv X pins σ H' s' /\ VV ps vs /\ Q ps H') X.xe s
theorem pps_nil {X : Cx} {pos : Pos} : PPs X pos [] [] [] := λ pins s σ H Q I h => pairTrees_nil_walk ⟨[], H, I, .nil, h⟩
theorem pps_cons {X : Cx} {pos : Pos} {k v : Expr} {ks : List (Option Expr)} {vs : List Expr} {tk tv : TE} {trs : List (TE × TE)} (hk : PE X k tk) (hv : PE X v tv) (hr : PPs X pos ks vs trs) :
    PPs X pos (some k :: ks) (v :: vs) ((tk, tv) :: trs) := λ pins s σ H Q I h =>
  pairTrees_cons_walk (thn (hk pins s σ H _ I h) λ u s1 ⟨x, H1, I1, rx, q1⟩ => thn (hv pins s1 σ H1 _ I1 q1) λ w2 s2 ⟨y, H2, I2, ry, q2⟩ =>
    thn (hr pins s2 σ H2 _ I2 q2) λ ws s3 ⟨ps, H3, I3, rel, q3⟩ => ⟨(x, y) :: ps, H3, I3, .cons ⟨rx, ry⟩ rel, q3⟩)
def mergeK (kvs more : List (Key × V)) : List (Key × V) := more.foldl (λ acc kv => putK acc kv.1 kv.2) kvs
theorem KV.merge : ∀ {more : List (Key × V)} {rs : List (Key × Value)} {kvs : List (Key × V)} {vs : List (Key × Value)}, KV more rs -> KV kvs vs -> KV (mergeK kvs more) (merged vs rs) := by
  intro more rs kvs vs r
  unfold KV at r
  induction r generalizing kvs vs with
  | nil => intro q; exact q
  | @cons p q ps qs h t ih =>
    intro r0
    have e : KV (putK kvs p.1 p.2) (stored vs q.1 q.2) := by
      have := r0.put p.1 h.2
      rw [<- h.1]; exact this
    exact ih e
theorem length_mergeK : ∀ (more kvs : List (Key × V)), (mergeK kvs more).length <= kvs.length + more.length
  | [], kvs => by show kvs.length <= kvs.length + 0; omega
  | p :: r, kvs => by
    have h1 := length_mergeK r (putK kvs p.1 p.2)
    have h2 := length_putK kvs p.1 p.2
    show (mergeK (putK kvs p.1 p.2) r).length <= _
    rw [List.length_cons]; omega
theorem carries_of {P : Program} {w : World} : ∀ {kvs : List (Key × V)} {ws : List (Value × Value)}, VV (kvs.map λ kv => (kV kv.1, kv.2)) ws -> ∃ rs, Carries (mixKind P w) ws rs /\ KV kvs rs
  | [], _, r => by rw [List.map_nil] at r; cases r; exact ⟨[], True.intro, .nil⟩
  | p :: kvs, _, r => by
    rw [List.map_cons] at r
    cases r with
    | @cons a b as bs h t =>
      obtain ⟨rs, c, q⟩ := carries_of (P := P) (w := w) t
      obtain ⟨b1, b2⟩ := b
      exact ⟨(p.1, b2) :: rs, ⟨kV_is h.1, rfl, c⟩, .cons ⟨rfl, h.2⟩ q⟩
def tDisp (trs : List (TE × TE)) : TE := λ σ H Q => ∀ p, H p = none -> tPairs trs σ (upd H p (.dK [])) λ ps H2 => H2 p = some (.dK []) /\ ∃ kvs : List (Key × V), ps = kvs.map (λ kv => (kV kv.1, kv.2)) /\ kvs.length <= 15 /\ Q (.ref p) (upd H2 p (.dK (mergeK [] kvs)))
theorem pe_disp {X : Cx} {pos : Pos} {keys : List (Option Expr)} {values : List Expr} {trs : List (TE × TE)} (h : PPs X pos keys values trs) (hall : keys.all (·.isSome) = true) (hl : keys.length = values.length) (h0 : keys ≠ [])
    (h15 : keys.length <= 15) : PE X (.Dict keys values pos) (tDisp trs) := by
  intro pins s σ H Q I q
  have hn := I.hok.fresh (Nat.le_refl s.heap.objs.size)
  have I1 := I.laid (a := s.heap.objs.size) (o := .dK []) (h' := s.heap.push { cls := .type "dict", data := .dict #[] }) (t' := s.toks) (λ _ _ q => Heap.get?_push_of_some _ q) (Nat.le_refl _) (dk_empty s.heap I.big)
  refine wpAny_Dict_walk (knd := mixKind X.prog X.w) hall hl h0 h15 (thn (h pins _ σ _ _ I1 (q _ hn)) λ ws s2 ⟨ps, H2, I2, rel, e, kvs, ep, lk, q2⟩ => ?_)
  subst ep
  obtain ⟨rs, c, rk⟩ := carries_of (P := X.prog) (w := X.w) rel
  obtain ⟨z, hd, vs0, r0, dd⟩ := dk_of I2.hok e
  cases r0
  refine ⟨rs, c, dd, λ h' dd' hs => ⟨.ref s.heap.objs.size, _, ?_, rfl, q2⟩⟩
  have hz : (mergeK [] kvs).length <= sizeLine := by
    have h1 := length_mergeK kvs []
    rw [List.length_nil] at h1
    rw [sizeLine_eq]; omega
  have he : ∃ q, h'.get? s.heap.objs.size = some q := let ⟨q, _, _, hq, _⟩ := dd'; ⟨q, hq⟩
  exact d_write I2 (by rw [e]; exact True.intro) hs he (dk_new hz hd (rk.merge .nil) dd')
section
variable {X : Cx} {pins : List (Addr × Obj)} {σ : St} {H : Hp} {s : Shared} {a : Addr} {y d : V} {u r : Value} {o : Option V} {A : Around} {E : Value -> Shared -> Prop}
end
section
variable {X : Cx} {o e f : Expr} {apos cpos : Pos} {td ty tx : TE}
end
section
variable {X : Cx} {pins : List (Addr × Obj)} {σ : St} {H : Hp} {s : Shared} {a : Addr} {kvs : List (Key × V)} {A : Around} {E : Value -> Shared -> Prop}
end
section
variable {X : Cx} {pins : List (Addr × Obj)} {σ : St} {H : Hp} {s : Shared} {a : Addr} {y : V} {u : Value} {A : Around} {E : Value -> Shared -> Prop}
end
end L2
namespace L2
open PySem PySem.Spec PyProof.Rows
section
variable {X : Cx}
end
section
variable {κ : Type} [DecidableEq κ]
end
end L2
namespace L2
open PySem PySem.Spec PyProof.Rows
def closOf (cells : List (Str × Addr)) : List (Str × NameKind) -> List (Str × Addr) -> List (Str × Addr)
  | [], acc => acc
  | (n, k) :: r, acc => if k == .free then closOf cells r ((n, (cells.lookup n).getD 0) :: acc) else closOf cells r acc
theorem closureFor_gen {env : Env} (f : Str × NameKind -> List (Str × Addr) -> Sem (ForInStep (List (Str × Addr))))
    (hf : ∀ name kind cs, f (name, kind) cs = if (kind == NameKind.free) = true then (do let a <- cellOf env name; pure (ForInStep.yield ((name, a) :: cs))) else pure (ForInStep.yield cs)) :
    ∀ (names : List (Str × NameKind)) (acc : List (Str × Addr)), (∀ y ∈ names, y.2 = .free -> ∃ c, env.cells.lookup y.1 = some c) -> forIn names acc f = pure (closOf env.cells names acc)
  | [], acc, _ => rfl
  | (n, k) :: r, acc, hy => by
    rw [List.forIn_cons, hf]
    have ih := λ a => closureFor_gen f hf r a λ z hz => hy z (List.mem_cons_of_mem _ hz)
    by_cases hk : (k == NameKind.free) = true
    . obtain ⟨c, hc⟩ := hy (n, k) List.mem_cons_self (by simpa using hk)
      have hc : env.cells.lookup n = some c := hc
      have e1 : cellOf env n = pure c := by unfold cellOf; rw [hc]
      rw [if_pos hk, e1]
      show forIn r ((n, c) :: acc) f = _
      have e2 : closOf env.cells ((n, k) :: r) acc = closOf env.cells r ((n, c) :: acc) := by
        rw [closOf, if_pos hk, hc]
        rfl
      rw [ih, e2]
    . rw [if_neg hk]
      show forIn r acc f = _
      have e2 : closOf env.cells ((n, k) :: r) acc = closOf env.cells r acc := by
        rw [closOf, if_neg hk]
      rw [ih, e2]
theorem closureFor_eq {scope : Scope} {env : Env} (h : ∀ y ∈ scope.names, y.2 = .free -> ∃ c, env.cells.lookup y.1 = some c) : closureFor scope env = pure (closOf env.cells scope.names []) := by
  unfold closureFor
  dsimp only
  rw [closureFor_gen _ (λ name kind cs => rfl) scope.names [] h]
  rfl
theorem closOf_old {cells : List (Str × Addr)} : ∀ {names : List (Str × NameKind)} {acc : List (Str × Addr)}, (∀ y ∈ names, y.2 = .free -> ∃ c, cells.lookup y.1 = some c) -> (∀ x c, acc.lookup x = some c -> cells.lookup x = some c) ->
    ∀ x c, (closOf cells names acc).lookup x = some c -> cells.lookup x = some c
  | [], _, _, ha, x, c, e => ha x c e
  | (n, k) :: r, acc, hy, ha, x, c, e => by
    unfold closOf at e
    have hr : ∀ y ∈ r, y.2 = .free -> ∃ c, cells.lookup y.1 = some c := λ z hz => hy z (List.mem_cons_of_mem _ hz)
    by_cases hk : (k == NameKind.free) = true
    . rw [if_pos hk] at e
      refine closOf_old hr (λ z d q => ?_) x c e
      obtain ⟨c0, hc0⟩ := hy (n, k) List.mem_cons_self (by simpa using hk)
      have hc0 : cells.lookup n = some c0 := hc0
      rw [List.lookup_cons] at q
      by_cases hz : (z == n) = true
      . rw [hz, hc0] at q
        have : z = n := by simpa using hz
        subst this
        simpa [hc0] using q
      . have hz' : (z == n) = false := by simpa using hz
        rw [hz'] at q
        exact ha z d q
    . rw [if_neg hk] at e
      exact closOf_old hr ha x c e
theorem closOf_has {cells : List (Str × Addr)} : ∀ {names : List (Str × NameKind)} {acc : List (Str × Addr)} {x : Str}, ((acc.lookup x).isSome = true ∨ (x, NameKind.free) ∈ names) -> ((closOf cells names acc).lookup x).isSome = true
  | [], _, _, h => h.elim id λ z => by cases z
  | (n, k) :: r, acc, x, h => by
    unfold closOf
    by_cases hk : (k == NameKind.free) = true
    . rw [if_pos hk]
      refine closOf_has ?_
      by_cases hx : (x == n) = true
      . exact .inl (by rw [List.lookup_cons, hx]; rfl)
      . have hx' : (x == n) = false := by simpa using hx
        rcases h with h | h
        . exact .inl (by rw [List.lookup_cons, hx']; exact h)
        . rcases List.mem_cons.mp h with h | h
          . cases h; simp at hx
          . exact .inr h
    . rw [if_neg hk]
      refine closOf_has ?_
      rcases h with h | h
      . exact .inl h
      . rcases List.mem_cons.mp h with h | h
        . cases h; simp at hk
        . exact .inr h
def ownC : Nat -> List (Str × NameKind) -> List (Str × Addr)
  | _, [] => []
  | n, (x, k) :: r => if k == .cell then ownC (n + 1) r ++ [(x, n)] else ownC n r
theorem cellsFrom_own : ∀ (names : List (Str × NameKind)) (n : Nat) (acc : List (Str × Addr)), cellsFrom n names acc = ownC n names ++ acc
  | [], _, _ => rfl
  | (x, k) :: r, n, acc => by
    unfold cellsFrom ownC
    by_cases hk : (k == NameKind.cell) = true
    . rw [if_pos hk, if_pos hk, cellsFrom_own r (n + 1), List.append_assoc]; rfl
    . rw [if_neg hk, if_neg hk, cellsFrom_own r n]
theorem ownC_key : ∀ (names : List (Str × NameKind)) (n : Nat) (x : Str) (c : Addr), (ownC n names).lookup x = some c -> (x, NameKind.cell) ∈ names
  | [], _, _, _, e => by cases e
  | (y, k) :: r, n, x, c, e => by
    unfold ownC at e
    by_cases hk : (k == NameKind.cell) = true
    . rw [if_pos hk] at e
      have hk' : k = .cell := by simpa using hk
      rw [List.lookup_append] at e
      cases q : (ownC (n + 1) r).lookup x with
      | some d => exact List.mem_cons_of_mem _ (ownC_key r _ x d q)
      | none =>
        rw [q] at e
        simp only [Option.none_or, List.lookup_cons] at e
        by_cases hx : (x == y) = true
        . have : x = y := by simpa using hx
          subst this; subst hk'
          exact List.mem_cons_self
        . have hx' : (x == y) = false := by simpa using hx
          rw [hx'] at e; cases e
    . rw [if_neg hk] at e
      exact List.mem_cons_of_mem _ (ownC_key r n x c e)
theorem ownC_has : ∀ (names : List (Str × NameKind)) (n : Nat) (x : Str), (x, NameKind.cell) ∈ names -> ∃ c, (ownC n names).lookup x = some c
  | [], _, _, h => by cases h
  | (y, k) :: r, n, x, h => by
    unfold ownC
    by_cases hk : (k == NameKind.cell) = true
    . rw [if_pos hk, List.lookup_append]
      rcases List.mem_cons.mp h with h | h
      . obtain ⟨rfl, rfl⟩ := Prod.mk.inj h
        cases q : (ownC (n + 1) r).lookup x with
        | some d => exact ⟨d, rfl⟩
        | none => exact ⟨n, by simp [List.lookup_cons]⟩
      . obtain ⟨c, hc⟩ := ownC_has r (n + 1) x h
        exact ⟨c, by rw [hc]; rfl⟩
    . rw [if_neg hk]
      rcases List.mem_cons.mp h with h | h
      . cases h; simp at hk
      . exact ownC_has r n x h
def cEnv (scope : Scope) (C : Addr) (env : Env) : Env :=
  { scope := relabel scope env, locals := C, globals := env.globals, cells := cellsFrom (C + 1) scope.names (closOf env.cells scope.names []), qual := env.qual, func := none, code := env.code, frame := env.frame, builtins := env.builtins }
theorem newEnvC {M : Model} {A : Around} {E : Value -> Shared -> Prop} {s : Shared} {scope : Scope} {cl : List (Str × Addr)} {env : Env} {Q : Env -> Shared -> Prop}
    (hQ : ∀ h', (∀ b o, s.heap.get? b = some o -> h'.get? b = some o) -> h'.Ns s.heap.objs.size (λ _ => none) -> (∀ x c, (ownC (s.heap.objs.size + 1) scope.names).lookup x = some c -> h'.IsCell c none /\ s.heap.objs.size < c) ->
      ((ownC (s.heap.objs.size + 1) scope.names).Pairwise λ x y => x.2 ≠ y.2) ->
      Q { scope := scope, locals := s.heap.objs.size, globals := env.globals, cells := cellsFrom (s.heap.objs.size + 1) scope.names cl, qual := env.qual, func := none, code := env.code, frame := env.frame, builtins := env.builtins } { s with heap := h' }) :
    wpAny M A (newFunctionEnv scope env.globals cl [] env.qual none .none (some env)) Q E s := by
  simp only [newFunctionEnv, Option.isSome_some, if_true]
  refine wpAny_bind (wpAny_alloc ?_)
  refine wpAny_bind (wpAny_layCells _ (λ name kind cells => by cases hkc : kind == NameKind.cell <;> simp [hkc]) _ _ _ _ ?_)
  have ok := cellsFrom_ok scope.names (s.heap.push { cls := .type "dict", data := .dict #[] }) (s.heap.objs.size + 1) [] ⟨λ _ _ hm => (nomatch hm), List.Pairwise.nil⟩ (by rw [Heap.size_push]; exact Nat.le_refl _)
  rw [Heap.size_push, cellsFrom_own, List.append_nil] at ok
  rw [show ({ s with heap := s.heap.push { cls := .type "dict", data := .dict #[] } } : Shared).heap.objs.size = s.heap.objs.size + 1 from Heap.size_push ..]
  refine wpAny_bind (wpAny_pure (wpAny_pure ?_))
  exact hQ _ (λ b o e => pushCells_keeps _ _ b o (Heap.get?_push_of_some _ e)) ((Heap.Ns.new s.heap (.type "dict")).keeps (pushCells_keeps _ _)) (λ x c hc => ⟨(ok.empty x c (mem_of_lookup hc)).1, (ok.empty x c (mem_of_lookup hc)).2⟩) ok.apart
end L2
namespace L2
open PySem PySem.Spec PyProof.Rows
theorem nodup_fun : ∀ {names : List (Str × NameKind)} {x : Str} {k k' : NameKind}, (names.map (·.1)).Nodup -> (x, k) ∈ names -> (x, k') ∈ names -> k = k'
  | [], _, _, _, _, h, _ => by cases h
  | (y, q) :: r, x, k, k', nd, h, h' => by
    have nd : (y :: r.map (·.1)).Nodup := nd
    obtain ⟨n1, n2⟩ := List.nodup_cons.mp nd
    have out : ∀ {z : NameKind}, (y, z) ∈ r -> False := λ m => n1 (List.mem_map.mpr ⟨_, m, rfl⟩)
    rcases List.mem_cons.mp h with e | e <;> rcases List.mem_cons.mp h' with e' | e'
    . cases e; cases e'; rfl
    . cases e; exact (out e').elim
    . cases e'; exact (out e).elim
    . exact nodup_fun n2 e e'
theorem relabel_kinds {env : Env} {x : Str} : ∀ {names : List (Str × NameKind)}, names.lookup x = some .free ->
    (names.map λ (n, k) => if (k == NameKind.free && env.scope.kind == .function && env.kindOf n == some .cell) then (n, NameKind.cell) else (n, k)).lookup x = some .cell ∨
    (names.map λ (n, k) => if (k == NameKind.free && env.scope.kind == .function && env.kindOf n == some .cell) then (n, NameKind.cell) else (n, k)).lookup x = some .free
  | [], h => by simp at h
  | (n, k) :: r, h => by
    have ih := @relabel_kinds env x r
    show List.lookup x ((if (k == NameKind.free && env.scope.kind == .function && env.kindOf n == some .cell) = true then (n, NameKind.cell) else (n, k)) :: _) = _ ∨ List.lookup x ((if (k == NameKind.free && env.scope.kind == .function && env.kindOf n == some .cell) = true then (n, NameKind.cell) else (n, k)) :: _) = _
    cases hx : x == n with
    | true =>
      simp only [List.lookup_cons, hx] at h
      cases h
      by_cases hc : (NameKind.free == NameKind.free && env.scope.kind == .function && env.kindOf n == some .cell) = true
      . rw [if_pos hc]; exact .inl (by simp only [List.lookup_cons, hx])
      . rw [if_neg hc]; exact .inr (by simp only [List.lookup_cons, hx])
    | false =>
      simp only [List.lookup_cons, hx] at h
      by_cases hc : (k == NameKind.free && env.scope.kind == .function && env.kindOf n == some .cell) = true
      . rw [if_pos hc]; simp only [List.lookup_cons, hx]; exact ih h
      . rw [if_neg hc]; simp only [List.lookup_cons, hx]; exact ih h
theorem relabel_back {env : Env} {x : Str} : ∀ {names : List (Str × NameKind)},
    ((names.map λ (n, k) => if (k == NameKind.free && env.scope.kind == .function && env.kindOf n == some .cell) then (n, NameKind.cell) else (n, k)).lookup x = some .cell ∨
    (names.map λ (n, k) => if (k == NameKind.free && env.scope.kind == .function && env.kindOf n == some .cell) then (n, NameKind.cell) else (n, k)).lookup x = some .free) ->
    names.lookup x = some .cell ∨ names.lookup x = some .free
  | [], h => by simp at h
  | (n, k) :: r, h => by
    have ih := @relabel_back env x r
    have h : List.lookup x ((if (k == NameKind.free && env.scope.kind == .function && env.kindOf n == some .cell) = true then (n, NameKind.cell) else (n, k)) :: _) = _ ∨ List.lookup x ((if (k == NameKind.free && env.scope.kind == .function && env.kindOf n == some .cell) = true then (n, NameKind.cell) else (n, k)) :: _) = _ := h
    cases hx : x == n with
    | true =>
      by_cases hc : (k == NameKind.free && env.scope.kind == .function && env.kindOf n == some .cell) = true
      . have hk : k = .free := by
          have := (Bool.and_eq_true _ _ ▸ (Bool.and_eq_true _ _ ▸ hc).1 : (k == NameKind.free) = true /\ _).1
          simpa using this
        exact .inr (by simp only [List.lookup_cons, hx, hk])
      . rw [if_neg hc] at h
        simp only [List.lookup_cons, hx] at h ⊢
        exact h
    | false =>
      simp only [List.lookup_cons, hx]
      refine ih ?_
      by_cases hc : (k == NameKind.free && env.scope.kind == .function && env.kindOf n == some .cell) = true
      . rw [if_pos hc] at h; simp only [List.lookup_cons, hx] at h; exact h
      . rw [if_neg hc] at h; simp only [List.lookup_cons, hx] at h; exact h
def cCx (X : Cx) (N' : List Str) (scope : Scope) (s : Shared) (H : Hp) (ex : List Addr) : Cx :=
  { X with N := N', s₀ := s, H₀ := H, env := cEnv scope s.heap.objs.size X.env, outer := X.stack, ex := ex, fn := λ x => decide ((x, NameKind.cell) ∈ scope.names), pn := [], xe := λ _ _ => False }
structure CSc (X : Cx) (scope : Scope) (fr : List Str) (ix : List Nat) : Prop where
  kind : scope.kind = .function
  nd : (scope.names.map (·.1)).Nodup
  free : (scope.names.all λ y => y.2 != .free || X.env.kindOf y.1 == some .cell || X.env.kindOf y.1 == some .free) = true
  frs : (fr.all λ x => scope.names.lookup x == some .free) = true
  ixs : fr.map some = ix.map λ i => X.N[i]?
  loc : (scope.names.all λ y => y.2 != .local || scope.names.lookup y.1 == some .local) = true
def capt (n : Nat) (ix : List Nat) (σ : St) : St := List.replicate n none ++ ix.map λ i => (σ[i]?).join
section
variable {X : Cx} {scope : Scope} {fr loc : List Str} {ix : List Nat} {pins : List (Addr × Obj)} {σ : St} {H : Hp} {s : Shared}
theorem CSc.outer (S : CSc X scope fr ix) {y : Str × NameKind} (hy : y ∈ scope.names) (e : y.2 = .free) : X.env.kindOf y.1 = some .cell ∨ X.env.kindOf y.1 = some .free := by
  have h := List.all_eq_true.mp S.free y hy
  rw [e] at h
  simpa using h
theorem CSc.clos (S : CSc X scope fr ix) (ok : X.Ok) : ∀ y ∈ scope.names, y.2 = .free -> ∃ c, X.env.cells.lookup y.1 = some c := λ y hy e => ok.has y.1 (S.outer hy e)
theorem cells_cases (S : CSc X scope fr ix) (ok : X.Ok) {n : Nat} {x : Str} {c : Addr} (e : (cellsFrom n scope.names (closOf X.env.cells scope.names [])).lookup x = some c) :
    (ownC n scope.names).lookup x = some c ∨ X.env.cells.lookup x = some c := by
  rw [cellsFrom_own, List.lookup_append] at e
  cases q : (ownC n scope.names).lookup x with
  | some d => rw [q] at e; exact .inl e
  | none =>
    rw [q] at e
    exact .inr (closOf_old (S.clos ok) (λ _ _ z => by simp at z) x c e)
theorem inv_comp (S : CSc X scope fr ix) (I : Inv X pins σ H s) {ex : List Addr} (hex : ∀ b ∈ ex, FpOk X pins H b) {h' : Heap} (hk : ∀ b o, s.heap.get? b = some o -> h'.get? b = some o) (hn : h'.Ns s.heap.objs.size λ _ => none)
    (ho : ∀ x c, (ownC (s.heap.objs.size + 1) scope.names).lookup x = some c -> h'.IsCell c none /\ s.heap.objs.size < c) (ha : (ownC (s.heap.objs.size + 1) scope.names).Pairwise λ x y => x.2 ≠ y.2) (hlt : ∀ b ∈ ex, b < s.heap.objs.size) :
    Inv (cCx X (loc ++ fr) scope s H ex) [] (capt loc.length ix σ) H { s with heap := h' } := by
  have old : ∀ x c, X.env.cells.lookup x = some c -> c < s.heap.objs.size := λ x c e => let ⟨v, z⟩ := I.cell x c e; z.lt
  have lenix : fr.length = ix.length := by simpa using congrArg List.length S.ixs
  refine ⟨⟨I.ok.mod, ?_, I.ok.glob, I.ok.blt, Nat.le_refl _, ?_, ?_, ?_, I.ok.hd, I.ok.frames, .inl rfl, ?_, I.bs, Nat.le_trans I.ok.bsz I.sz, ?_, ?_, I.stack, I.stkFree⟩, rfl, I.bare, Un.kept hk, ⟨_, hn, ?_⟩, ?_, I.hok.fresh (Nat.le_refl _), ?_, ?_, I.hok.kept hk, ?_⟩
  . exact S.kind
  . intro x y c e1 e2
    rcases cells_cases S I.ok e1 with a | a <;> rcases cells_cases S I.ok e2 with b | b
    . exact name_of_addr ha (PySem.mem_of_lookup a) (PySem.mem_of_lookup b)
    . exact absurd (Nat.lt_trans (ho x c a).2 (old y c b)) (Nat.lt_irrefl _)
    . exact absurd (Nat.lt_trans (ho y c b).2 (old x c a)) (Nat.lt_irrefl _)
    . exact I.ok.inj x y c a b
  . intro x hx
    rcases relabel_back hx with e | e
    . exact Option.isSome_iff_exists.mp (PySem.W.cellsFrom_some _ _ _ (.inl e))
    . exact Option.isSome_iff_exists.mp (PySem.W.cellsFrom_some _ _ _ (.inr (closOf_has (.inr (PySem.mem_of_lookup e)))))
  . intro x c hf e
    have hf : (x, NameKind.cell) ∈ scope.names := of_decide_eq_true hf
    obtain ⟨d, hd⟩ := ownC_has scope.names (s.heap.objs.size + 1) x hf
    have e' : (cellsFrom (s.heap.objs.size + 1) scope.names (closOf X.env.cells scope.names [])).lookup x = some c := e
    rw [cellsFrom_own, List.lookup_append, hd] at e'
    cases e'
    exact Nat.le_of_lt (ho x _ hd).2
  . intro b hb
    refine ⟨Nat.ne_of_lt (hlt b hb), λ x c e z => ?_⟩
    rcases cells_cases S I.ok e with a | a
    . exact absurd (Nat.lt_trans (ho x c a).2 (by rw [z]; exact hlt b hb)) (Nat.lt_irrefl _)
    . exact (hex b hb).2.2.2.2.1 x c a z
  . intro b o e hb
    rcases (hex b hb).2.2.2.1 with z | z
    . exact I.ok.noex b o e z
    . exact absurd (Nat.lt_of_lt_of_le (Heap.lt_size (I.ok.bs b o e).1) z) (Nat.lt_irrefl _)
  . intro b hb hf
    rcases List.mem_cons.mp (I.stkSub b hf) with z | z
    . exact (hex b hb).2.1 z
    . exact (hex b hb).2.2.1 z
  . intro i x v e1 e2 e3
    have e1 : (loc ++ fr)[i]? = some x := e1
    unfold capt at e2
    by_cases hi : i < loc.length
    . rw [List.getElem?_append_left (by simpa using hi), List.getElem?_replicate] at e2
      split at e2 <;> cases e2
    . have hi' : loc.length <= i := Nat.not_lt.mp hi
      rw [List.getElem?_append_right (by simpa using hi')] at e2
      rw [List.getElem?_append_right hi'] at e1
      rw [List.length_replicate, List.getElem?_map] at e2
      generalize hj : i - loc.length = j at e1 e2
      have e4 : (fr.map some)[j]? = some (some x) := by rw [List.getElem?_map, e1]; rfl
      rw [S.ixs, List.getElem?_map] at e4
      cases q : ix[j]? with
      | none => rw [q] at e2; cases e2
      | some k =>
        rw [q] at e2 e4
        have e2 : (σ[k]?).join = some v := Option.some.inj e2
        have e4 : X.N[k]? = some x := Option.some.inj e4
        have e5 : σ[k]? = some (some v) := by
          cases w : σ[k]? with
          | none => rw [w] at e2; cases e2
          | some z => rw [w] at e2; simpa using e2
        have hfx := List.all_eq_true.mp S.frs x (List.mem_of_getElem? e1)
        have hfx : scope.names.lookup x = some .free := by simpa using hfx
        have hmem := PySem.mem_of_lookup hfx
        have hout := S.outer hmem rfl
        obtain ⟨m, hm, hl⟩ := I.loc
        obtain ⟨u, r, l⟩ := hl k x v e4 e5 (.inr hout)
        refine ⟨u, r, .inr ⟨relabel_kinds hfx, ?_⟩⟩
        rcases l with ⟨kk, _⟩ | ⟨kk, c, ec, z⟩
        . rcases hout with w | w
          . rw [kk] at w; cases w
          . rw [kk] at w; cases w
        . have own0 : (ownC (s.heap.objs.size + 1) scope.names).lookup x = none := by
            cases w : (ownC (s.heap.objs.size + 1) scope.names).lookup x with
            | none => rfl
            | some d => exact absurd (nodup_fun S.nd (ownC_key _ _ _ _ w) hmem) (by decide)
          have hc : (closOf X.env.cells scope.names []).lookup x = some c := by
            obtain ⟨d, hd⟩ := Option.isSome_iff_exists.mp (closOf_has (cells := X.env.cells) (acc := []) (.inr hmem))
            have := closOf_old (S.clos I.ok) (λ _ _ z => by simp at z) x d hd
            rw [ec] at this; cases this
            exact hd
          refine ⟨c, ?_, z.keeps hk⟩
          show (cellsFrom (s.heap.objs.size + 1) scope.names (closOf X.env.cells scope.names [])).lookup x = some c
          rw [cellsFrom_own, List.lookup_append, own0, hc]
          rfl
  . intro x c e
    rcases cells_cases S I.ok e with a | a
    . exact ⟨_, (ho x c a).1⟩
    . obtain ⟨v, z⟩ := I.cell x c a
      exact ⟨v, z.keeps hk⟩
  . intro x c e
    rcases cells_cases S I.ok e with a | a
    . exact I.hok.fresh (Nat.le_of_lt (ho x c a).2)
    . exact I.freeC x c a
  . intro p hp
    cases hp
  . unfold capt
    show _ = (loc ++ fr).length
    simp [lenix]
end
end L2
namespace L2
open PySem PySem.Spec PyProof.Rows
section
variable {prog : Program} {w : World} {A : Around} {R : Result -> Shared -> Prop} {s : Shared}
theorem compLoop_any {elt target iter : Expr} {ifs : List Expr} {scope : Scope} {pos : Pos} {it acc : Value} {env : Env} (I : Nat -> Shared -> Prop)
    (turn : ∀ n s, I n s -> wpAny (model prog w) A (pyNext it) (λ r s₁ => match r with
      | none => R (.ok .next) s₁
      | some v => wpAny (model prog w) A (letOwnedTupleGo target it v) (λ _ s₁ => wpAny (model prog w) A (assign target env v) (λ _ s₂ =>
          wpAny (model prog w) A (forIn ifs true λ c r => if r = true then do let ok <- isTrue c env (eval c env); pure (ForInStep.yield ok) else pure (ForInStep.yield r)) (λ ok s₃ =>
            if ok = true then wpAny (model prog w) A (eval elt env) (λ x s₄ =>
              wpAny (model prog w) A (call (.builtin "list.append") [acc, x]) (λ _ s₅ => ∃ m, m < n /\ I m s₅) (λ _ _ => False) s₄) (λ _ _ => False) s₃
            else ∃ m, m < n /\ I m s₃) (λ _ _ => False) s₂) (λ _ _ => False) s₁) (λ _ _ => False) s₁) (λ _ _ => False) s)
    (n : Nat) (h : I n s) :
    codeAny (model prog w) A (.compLoop (.ListComp elt [⟨target, iter, ifs, 0⟩] scope pos) 0 it acc env) R s := by
  refine codeAny_loop rfl I (λ n s hI => ?_) n h
  show wpAny _ A ((compTurn (.ListComp elt [⟨target, iter, ifs, 0⟩] scope pos) 0 it acc env).onRaise (λ x => do noteFrame x env; theTreesLotGoes x)) _ _ s
  refine wpAny_noted ?_
  rw [compTurn_list]
  refine wpAny_bind (wpAny_standAt (wpAny_bind (wpAny_mono (turn n s hI) (λ r s₁ h₁ => ?_) λ _ _ h' => h'.elim)))
  cases r with
  | none => exact wpAny_pure h₁
  | some v =>
    refine wpAny_bind (wpAny_mono h₁ (λ _ s₁ h₁ => ?_) λ _ _ h' => h'.elim)
    refine wpAny_bind (wpAny_mono h₁ (λ _ s₂ h₂ => wpAny_bind (wpAny_mono h₂ (λ ok s₃ h₃ => ?_) λ _ _ h' => h'.elim)) λ _ _ h' => h'.elim)
    cases ok with
    | false => exact wpAny_pure ⟨rfl, h₃⟩
    | true =>
      exact wpAny_bind (wpAny_bind (wpAny_mono h₃ (λ x s₄ h₄ => wpAny_bind (wpAny_mono h₄ (λ _ s₅ h₅ => wpAny_pure (wpAny_pure ⟨rfl, h₅⟩)) λ _ _ h' => h'.elim)) λ _ _ h' => h'.elim))
end
def PF (X : Cx) (ifs : List Expr) (t : TT) : Prop :=
  ∀ (pins : List (Addr × Obj)) (s : Shared) (σ : St) (H : Hp) (Q : Bool -> Hp -> Prop), Inv X pins σ H s -> t σ H Q ->
    wpAny (model X.prog X.w) X.A (forIn ifs true λ c r => if r = true then do let ok <- isTrue c X.env (eval c X.env); pure (ForInStep.yield ok) else pure (ForInStep.yield r)) (TP X pins σ Q) X.xe s
def tYes : TT := λ _ H Q => Q true H
theorem pf_nil {X : Cx} : PF X [] tYes := λ pins s σ H Q I h => wpAny_tests_nil ⟨H, I, h⟩
theorem pf_one {X : Cx} {c : Expr} {t : TT} (h : PT X c t) : PF X [c] t := λ pins s σ H Q I q => wpAny_tests_one (h pins s σ H Q I q)
def CompW (J : It) (D : Addr) (σ0 : St) (H0 : Hp) (g : TG) (tf : TT) (te : TE) (Q : VK) : Prop := ∃ W : Nat -> Nat -> St -> List V -> Hp -> Prop,
  (∃ m, W 0 m σ0 [] (upd H0 D (.lst []))) /\ ∀ i m σ ys H, W i m σ ys H -> H D = some (.lst ys) /\
    ((J.stop i H /\ Q (.ref D) H) ∨ (J.go i H /\ ys.length < sizeLine /\ ∃ N : St -> List V -> Hp -> Prop, (∀ σ' ys' H', N σ' ys' H' -> ∃ m', m' < m /\ W (i + 1) m' σ' ys' H') /\
      ∀ x H', J.yld i H x H' -> g x σ H' λ σ2 H2 => tf σ2 H2 λ b H3 =>
        if b = true then te σ2 H3 λ v H4 => H4 D = some (.lst ys) /\ N σ2 (ys ++ [v]) (upd H4 D (.lst (ys ++ [v])))
        else N σ2 ys H3))
def tComp (n : Nat) (ix : List Nat) (wi : TI) (g : TG) (tf : TT) (te : TE) : TE := λ σ H Q => wi σ H λ J H1 => ∀ D, H1 D = none -> CompW J D (capt n ix σ) H1 g tf te Q
section
variable {X : Cx}
theorem app_ok {pins : List (Addr × Obj)} {σ : St} {H : Hp} {s : Shared} {D : Addr} {ys : List V} {x : V} {u : Value} {Q : Value -> Shared -> Prop} {E : Value -> Shared -> Prop} (I : Inv X pins σ H s) (hD : H D = some (.lst ys)) (r : RelV x u) (hz : ys.length < sizeLine)
    (h : ∀ v s', Inv X pins σ (upd H D (.lst (ys ++ [x]))) s' -> Q v s') : wpAny (model X.prog X.w) X.A (call (.builtin "list.append") [.ref D, u]) Q E s := by
  have I' := I.wish λ _ _ => False
  have q := mt_append (X := X.wish λ _ _ => False) pins s σ H (.ref D) [x] (.ref D) [u] (λ v H' => H' = upd H D (.lst (ys ++ [x]))) I' rfl (.cons r .nil) ⟨D, ys, x, rfl, rfl, hD, hz, rfl⟩
  refine wpAny_mono q (λ v s' ⟨v', H', I2, _, e⟩ => ?_) λ _ _ z => False.elim z
  subst e
  exact h v s' I2.unwish
theorem pe_comp {elt tg iter : Expr} {ifs : List Expr} {scope : Scope} {pos : Pos} {loc fr : List Str} {ix : List Nat} {wi : TI} {g : TG} {tf : TT} {te : TE} (hc : X.calm = true) (S : CSc X scope fr ix) (hi : PI X tg iter wi)
    (hg : ∀ s H ex, PG (cCx X (loc ++ fr) scope s H ex) tg g) (hf : ∀ s H ex, PF (cCx X (loc ++ fr) scope s H ex) ifs tf) (he : ∀ s H ex, PE (cCx X (loc ++ fr) scope s H ex) elt te)
    (hs : ∀ x, foldedSetIterable iter X.env x = pure x := by intro _; rfl) : PE X (.ListComp elt [⟨tg, iter, ifs, 0⟩] scope pos) (tComp loc.length ix wi g tf te) := by
  intro pins s σ H Q I h
  rw [eval_ListComp]
  have hnames : ∀ y ∈ scope.names, y.2 = .local -> scope.names.lookup y.1 = some .local := λ y hy e => by
    have := List.all_eq_true.mp S.loc y hy
    rw [e] at this
    simpa using this
  refine wpAny_comprehension_free (use := none) rfl hs (closureFor_eq (S.clos I.ok)) S.kind hnames (thn (hi pins s σ H _ I h) λ v s1 h1 => thn h1 λ itv s2 h2 => ?_)
  obtain ⟨it, fp, tn, J, H2, rfl, I2, T, st2, f2, hW⟩ := h2
  refine wpAny_newObj_type ?_
  have fresh2 : H2 s2.heap.objs.size = none := I2.hok.fresh (Nat.le_refl _)
  have I3 := I2.lnew (its := []) (ys := []) (t' := s2.toks) .nil (Nat.zero_le _)
  obtain ⟨W, ⟨m0, w0⟩, turn⟩ := hW s2.heap.objs.size fresh2
  have lt2 : ∀ b ∈ fp, b < s2.heap.objs.size := λ b hb => let ⟨o, e, _⟩ := T.obj 0 _ st2 b hb; Heap.lt_size e
  have f3 : ∀ b ∈ fp, FpOk X pins (upd H2 s2.heap.objs.size (.lst [])) b := λ b hb => ⟨by rw [upd_ne (Nat.ne_of_lt (lt2 b hb))]; exact (f2 b hb).1, (f2 b hb).2⟩
  have lt3 : ∀ b ∈ fp, b < (s2.heap.push { cls := .type "list", data := .seq ([] : List Value).toArray }).objs.size := λ b hb => by rw [Heap.size_push]; exact Nat.lt_succ_of_lt (lt2 b hb)
  generalize hs3 : ({ s2 with heap := s2.heap.push { cls := .type "list", data := .seq ([] : List Value).toArray } } : Shared) = s3 at *
  have lt3 : ∀ b ∈ fp, b < s3.heap.objs.size := by rw [<- hs3]; exact lt3
  have st3 : tn 0 s3.heap := T.keep _ _ _ st2 λ b hb o e => by rw [<- hs3]; exact Heap.get?_push_of_some _ e
  refine newEnvC λ h' hk hn ho ha => ?_
  have I4 := inv_comp (loc := loc) S I3 f3 hk hn ho ha lt3
  have fpX : ∀ {H' : Hp}, (∀ b ∈ fp, H' b = none) -> ∀ b ∈ fp, FpOk (cCx X (loc ++ fr) scope s3 (upd H2 s2.heap.objs.size (.lst [])) fp) [] H' b := λ hn b hb =>
    ⟨hn b hb, (I4.ok.exf b hb).1, I4.ok.exfs b hb, .inl hb, (I4.ok.exf b hb).2, λ p hp => by cases hp⟩
  have loop : codeAny (model X.prog X.w) X.A (.compLoop (.ListComp elt [⟨tg, iter, ifs, 0⟩] scope pos) 0 (.ref it) (.ref s2.heap.objs.size) (cEnv scope s3.heap.objs.size X.env))
      (compPost (model X.prog X.w) X.A X.xe none (EP X pins σ Q) (.ref s2.heap.objs.size) s3.heap.objs.size) { s3 with heap := h' } := by
    refine compLoop_any (λ n s' => ∃ i σ' ys H', Inv (cCx X (loc ++ fr) scope s3 (upd H2 s2.heap.objs.size (.lst [])) fp) [] σ' H' s' /\ tn i s'.heap /\ (∀ b ∈ fp, H' b = none) /\ W i n σ' ys H') ?_ m0
      ⟨0, _, [], _, I4, T.keep _ _ _ st3 λ b hb o e => hk b o e, λ b hb => (f3 b hb).1, w0⟩
    rintro n s5 ⟨i, σ5, ys, H5, I5, st5, fr5, w5⟩
    obtain ⟨hD, w5⟩ := turn i n σ5 ys H5 w5
    rcases w5 with ⟨stop, qn⟩ | ⟨go, hz, N, hN, step⟩
    . refine thn (T.done (cCx X (loc ++ fr) scope s3 (upd H2 s2.heap.objs.size (.lst [])) fp) rfl rfl rfl hc i [] s5 σ5 H5 _ I5 (fpX fr5) st5 stop) λ r s6 ⟨hr, I6⟩ => ?_
      subst hr
      obtain ⟨m, hm, _⟩ := I6.loc
      refine ⟨m, hm, λ h'' hs => ?_⟩
      have neC : ∀ b o, s3.heap.get? b = some o -> b ≠ s3.heap.objs.size := λ b o e => Nat.ne_of_lt (Heap.lt_size e)
      have un := I6.base
      refine ⟨.ref s2.heap.objs.size, H5, I3.call' (s' := { s6 with heap := h'' }) (ch := fp) I6.os ⟨λ b o e n hb hx => ?_, λ b o e n hb hx => ?_, un.free, λ b o e hx => ?_, un.tups, un.frzs, un.tbls⟩ ?_ I6.bare ?_, rfl, qn⟩
      . exact (hs.2 b (neC b o e)).trans (un.keep b o e n hb hx)
      . obtain ⟨sl, q⟩ := un.slot b o e n hb hx
        exact ⟨sl, (hs.2 b (neC b o e)).trans q⟩
      . obtain ⟨o', q⟩ := un.there b o e hx
        exact ⟨o', (hs.2 b (neC b o e)).trans q⟩
      . intro b ob e
        have hfree : H5 s3.heap.objs.size = none := I6.free
        refine (I6.hok b ob e).stay (λ c w' hc q => (hs.2 c ?_).trans q) (λ _ q => q) λ _ _ q => q
        intro z
        rcases hc with hc | hc
        . rw [<- hc, z, hfree] at e; cases e
        . rw [z, hfree] at hc; cases hc
      . intro b hb
        obtain ⟨_, a2, _, a4, a5, a6⟩ := f3 b hb
        exact ⟨a4, a2, a5, a6⟩
    . refine thn (T.item (cCx X (loc ++ fr) scope s3 (upd H2 s2.heap.objs.size (.lst [])) fp) rfl rfl rfl hc i [] s5 σ5 H5 _ I5 (fpX fr5) st5 go) λ r s6 ⟨u, hr, h6⟩ => ?_
      subst hr
      refine thn h6 λ _ s7 ⟨x, H7, I7, r7, y7, st7, fr7⟩ => ?_
      have I7' := I7.pinned (fpX fr7) (T.obj _ _ st7)
      have keepI : ∀ {σ8 : St} {H8 : Hp} {s8 : Shared}, Inv (cCx X (loc ++ fr) scope s3 (upd H2 s2.heap.objs.size (.lst [])) fp) ([] ++ pinsAt fp s7.heap) σ8 H8 s8 -> tn (i + 1) s8.heap /\ ∀ b ∈ fp, H8 b = none := λ {σ8 H8 s8} I8 => by
        refine ⟨T.keep _ _ _ st7 λ b hb o e => (I8.pin (b, o) (List.mem_append_right _ (List.mem_append_right _ (mem_pinsAt hb e)))).1, λ b hb => ?_⟩
        obtain ⟨o, e, d⟩ := T.obj _ _ st7 b hb
        exact (I8.pin (b, o) (List.mem_append_right _ (List.mem_append_right _ (mem_pinsAt hb e)))).2.1
      refine thn (hg s3 (upd H2 s2.heap.objs.size (.lst [])) fp _ s7 σ5 H7 x u _ I7' r7 (step x H7 y7)) λ _ s8 ⟨σ8, H8, I8, q8⟩ => ?_
      refine thn (hf s3 (upd H2 s2.heap.objs.size (.lst [])) fp _ s8 σ8 H8 _ I8 q8) λ b s9 ⟨H9, I9, q9⟩ => ?_
      cases b with
      | false =>
        rw [if_neg Bool.false_ne_true] at q9 ⊢
        obtain ⟨m', hm, w9⟩ := hN _ _ _ q9
        exact ⟨m', hm, i + 1, σ8, ys, H9, I9.unpinned, (keepI I9).1, (keepI I9).2, w9⟩
      | true =>
        rw [if_pos rfl] at q9 ⊢
        refine thn (he s3 (upd H2 s2.heap.objs.size (.lst [])) fp _ s9 σ8 H9 _ I9 q9) λ e10 s10 ⟨v10, H10, I10, r10, hD10, n10⟩ => ?_
        obtain ⟨m', hm, w10⟩ := hN _ _ _ n10
        refine app_ok (X := cCx X (loc ++ fr) scope s3 (upd H2 s2.heap.objs.size (.lst [])) fp) I10 hD10 r10 hz λ _ s11 I11 => ?_
        exact ⟨m', hm, i + 1, σ8, _, _, I11.unpinned, (keepI I11).1, (keepI I11).2, w10⟩
  exact codeAny_compStart_list loop (T.self X.A 0 _ _ _ (T.keep _ _ _ st3 λ b hb o e => hk b o e) loop)
end
end L2
namespace L2
open PySem PySem.Spec PyProof.Rows
section
variable {X : Cx}
theorem comp_block {elt tg iter : Expr} {ifs : List Expr} {scope : Scope} {pos : Pos} {loc fr : List Str} {ix : List Nat} {g : TG} {tf : TT} {te : TE} {pins : List (Addr × Obj)} {σ : St} {Q : VK} {it : Addr} {fp : List Addr} {tn : Nat -> Heap -> Prop} {J : It} {H2 : Hp} {s2 : Shared} {E : Value -> Shared -> Prop}
    {RR : Value -> Addr -> Result -> Shared -> Prop} (hc : X.calm = true) (S : CSc X scope fr ix)
    (hg : ∀ s H ex, PG (cCx X (loc ++ fr) scope s H ex) tg g) (hf : ∀ s H ex, PF (cCx X (loc ++ fr) scope s H ex) ifs tf) (he : ∀ s H ex, PE (cCx X (loc ++ fr) scope s H ex) elt te)
    (I2 : Inv X pins σ H2 s2) (T : Turn X.prog X.w X.K tg J fp it tn) (st2 : tn 0 s2.heap) (f2 : ∀ b ∈ fp, FpOk X pins H2 b) (hW : ∀ D, H2 D = none -> CompW J D (capt loc.length ix σ) H2 g tf te Q)
    (hfin : ∀ (s3 s6 : Shared) (H5 : Hp) (σ5 : St) (D : Addr), Inv X pins σ (upd H2 D (.lst [])) s3 -> Inv (cCx X (loc ++ fr) scope s3 (upd H2 D (.lst [])) fp) [] σ5 H5 s6 -> (∀ b ∈ fp, FpOk X pins (upd H2 D (.lst [])) b) -> Q (.ref D) H5 -> RR (.ref D) s3.heap.objs.size (.ok .next) s6) :
    wpAny (model X.prog X.w) X.A (newList []) (λ acc s₃ => wpAny (model X.prog X.w) X.A (newFunctionEnv scope X.env.globals (closOf X.env.cells scope.names []) [] X.env.qual none .none (some X.env)) (λ cenv s₄ =>
      codeAny (model X.prog X.w) X.A (.compStart (.ListComp elt [⟨tg, iter, ifs, 0⟩] scope pos) 0 (.ref it) acc { cenv with scope := relabel scope X.env }) (RR acc cenv.locals) s₄) E s₃) E s2 := by
  refine wpAny_newObj_type ?_
  have fresh2 : H2 s2.heap.objs.size = none := I2.hok.fresh (Nat.le_refl _)
  have I3 := I2.lnew (its := []) (ys := []) (t' := s2.toks) .nil (Nat.zero_le _)
  obtain ⟨W, ⟨m0, w0⟩, turn⟩ := hW s2.heap.objs.size fresh2
  have lt2 : ∀ b ∈ fp, b < s2.heap.objs.size := λ b hb => let ⟨o, e, _⟩ := T.obj 0 _ st2 b hb; Heap.lt_size e
  have f3 : ∀ b ∈ fp, FpOk X pins (upd H2 s2.heap.objs.size (.lst [])) b := λ b hb => ⟨by rw [upd_ne (Nat.ne_of_lt (lt2 b hb))]; exact (f2 b hb).1, (f2 b hb).2⟩
  have lt3 : ∀ b ∈ fp, b < (s2.heap.push { cls := .type "list", data := .seq ([] : List Value).toArray }).objs.size := λ b hb => by rw [Heap.size_push]; exact Nat.lt_succ_of_lt (lt2 b hb)
  generalize hs3 : ({ s2 with heap := s2.heap.push { cls := .type "list", data := .seq ([] : List Value).toArray } } : Shared) = s3 at *
  have lt3 : ∀ b ∈ fp, b < s3.heap.objs.size := by rw [<- hs3]; exact lt3
  have st3 : tn 0 s3.heap := T.keep _ _ _ st2 λ b hb o e => by rw [<- hs3]; exact Heap.get?_push_of_some _ e
  refine newEnvC λ h' hk hn ho ha => ?_
  have I4 := inv_comp (loc := loc) S I3 f3 hk hn ho ha lt3
  have fpX : ∀ {H' : Hp}, (∀ b ∈ fp, H' b = none) -> ∀ b ∈ fp, FpOk (cCx X (loc ++ fr) scope s3 (upd H2 s2.heap.objs.size (.lst [])) fp) [] H' b := λ hn b hb =>
    ⟨hn b hb, (I4.ok.exf b hb).1, I4.ok.exfs b hb, .inl hb, (I4.ok.exf b hb).2, λ p hp => by cases hp⟩
  have loop : codeAny (model X.prog X.w) X.A (.compLoop (.ListComp elt [⟨tg, iter, ifs, 0⟩] scope pos) 0 (.ref it) (.ref s2.heap.objs.size) (cEnv scope s3.heap.objs.size X.env))
      (RR (.ref s2.heap.objs.size) s3.heap.objs.size) { s3 with heap := h' } := by
    refine compLoop_any (λ n s' => ∃ i σ' ys H', Inv (cCx X (loc ++ fr) scope s3 (upd H2 s2.heap.objs.size (.lst [])) fp) [] σ' H' s' /\ tn i s'.heap /\ (∀ b ∈ fp, H' b = none) /\ W i n σ' ys H') ?_ m0
      ⟨0, _, [], _, I4, T.keep _ _ _ st3 λ b hb o e => hk b o e, λ b hb => (f3 b hb).1, w0⟩
    rintro n s5 ⟨i, σ5, ys, H5, I5, st5, fr5, w5⟩
    obtain ⟨hD, w5⟩ := turn i n σ5 ys H5 w5
    rcases w5 with ⟨stop, qn⟩ | ⟨go, hz, N, hN, step⟩
    . refine thn (T.done (cCx X (loc ++ fr) scope s3 (upd H2 s2.heap.objs.size (.lst [])) fp) rfl rfl rfl hc i [] s5 σ5 H5 _ I5 (fpX fr5) st5 stop) λ r s6 ⟨hr, I6⟩ => ?_
      subst hr
      exact hfin s3 s6 H5 σ5 s2.heap.objs.size I3 I6 f3 qn
    . refine thn (T.item (cCx X (loc ++ fr) scope s3 (upd H2 s2.heap.objs.size (.lst [])) fp) rfl rfl rfl hc i [] s5 σ5 H5 _ I5 (fpX fr5) st5 go) λ r s6 ⟨u, hr, h6⟩ => ?_
      subst hr
      refine thn h6 λ _ s7 ⟨x, H7, I7, r7, y7, st7, fr7⟩ => ?_
      have I7' := I7.pinned (fpX fr7) (T.obj _ _ st7)
      have keepI : ∀ {σ8 : St} {H8 : Hp} {s8 : Shared}, Inv (cCx X (loc ++ fr) scope s3 (upd H2 s2.heap.objs.size (.lst [])) fp) ([] ++ pinsAt fp s7.heap) σ8 H8 s8 -> tn (i + 1) s8.heap /\ ∀ b ∈ fp, H8 b = none := λ {σ8 H8 s8} I8 => by
        refine ⟨T.keep _ _ _ st7 λ b hb o e => (I8.pin (b, o) (List.mem_append_right _ (List.mem_append_right _ (mem_pinsAt hb e)))).1, λ b hb => ?_⟩
        obtain ⟨o, e, d⟩ := T.obj _ _ st7 b hb
        exact (I8.pin (b, o) (List.mem_append_right _ (List.mem_append_right _ (mem_pinsAt hb e)))).2.1
      refine thn (hg s3 (upd H2 s2.heap.objs.size (.lst [])) fp _ s7 σ5 H7 x u _ I7' r7 (step x H7 y7)) λ _ s8 ⟨σ8, H8, I8, q8⟩ => ?_
      refine thn (hf s3 (upd H2 s2.heap.objs.size (.lst [])) fp _ s8 σ8 H8 _ I8 q8) λ b s9 ⟨H9, I9, q9⟩ => ?_
      cases b with
      | false =>
        rw [if_neg Bool.false_ne_true] at q9 ⊢
        obtain ⟨m', hm, w9⟩ := hN _ _ _ q9
        exact ⟨m', hm, i + 1, σ8, ys, H9, I9.unpinned, (keepI I9).1, (keepI I9).2, w9⟩
      | true =>
        rw [if_pos rfl] at q9 ⊢
        refine thn (he s3 (upd H2 s2.heap.objs.size (.lst [])) fp _ s9 σ8 H9 _ I9 q9) λ e10 s10 ⟨v10, H10, I10, r10, hD10, n10⟩ => ?_
        obtain ⟨m', hm, w10⟩ := hN _ _ _ n10
        refine app_ok (X := cCx X (loc ++ fr) scope s3 (upd H2 s2.heap.objs.size (.lst [])) fp) I10 hD10 r10 hz λ _ s11 I11 => ?_
        exact ⟨m', hm, i + 1, σ8, _, _, I11.unpinned, (keepI I11).1, (keepI I11).2, w10⟩
  exact codeAny_compStart_list loop (T.self X.A 0 _ _ _ (T.keep _ _ _ st3 λ b hb o e => hk b o e) loop)
theorem after_block {scope : Scope} {N' : List Str} {fp : List Addr} {pins : List (Addr × Obj)} {σ σ5 : St} {H3 H5 : Hp} {s3 s6 : Shared} {h'' : Heap} (I3 : Inv X pins σ H3 s3) (I6 : Inv (cCx X N' scope s3 H3 fp) [] σ5 H5 s6) (f3 : ∀ b ∈ fp, FpOk X pins H3 b)
    (hs : Heap.SameBut s3.heap.objs.size s6.heap h'') : Inv X pins σ H5 { s6 with heap := h'' } := by
  have neC : ∀ b o, s3.heap.get? b = some o -> b ≠ s3.heap.objs.size := λ b o e => Nat.ne_of_lt (Heap.lt_size e)
  have un := I6.base
  refine I3.call' (s' := { s6 with heap := h'' }) (ch := fp) I6.os ⟨λ b o e n hb hx => ?_, λ b o e n hb hx => ?_, un.free, λ b o e hx => ?_, un.tups, un.frzs, un.tbls⟩ ?_ I6.bare ?_
  . exact (hs.2 b (neC b o e)).trans (un.keep b o e n hb hx)
  . obtain ⟨sl, q⟩ := un.slot b o e n hb hx
    exact ⟨sl, (hs.2 b (neC b o e)).trans q⟩
  . obtain ⟨o', q⟩ := un.there b o e hx
    exact ⟨o', (hs.2 b (neC b o e)).trans q⟩
  . intro b ob e
    have hfree : H5 s3.heap.objs.size = none := I6.free
    refine (I6.hok b ob e).stay (λ c w' hc q => (hs.2 c ?_).trans q) (λ _ q => q) λ _ _ q => q
    intro z
    rcases hc with hc | hc
    . rw [<- hc, z, hfree] at e; cases e
    . rw [z, hfree] at hc; cases hc
  . intro b hb
    obtain ⟨_, a2, _, a4, a5, a6⟩ := f3 b hb
    exact ⟨a4, a2, a5, a6⟩
theorem ps_setC {i : Nat} {y : Str} {elt tg iter : Expr} {ifs : List Expr} {scope : Scope} {pos spos py : Pos} {loc fr : List Str} {ix : List Nat} {wi : TI} {g : TG} {tf : TT} {te : TE} (hN : X.N.Nodup) (hiN : X.N[i]? = some y) (hy : X.env.scope.names.lookup y = some .local)
    (hc : X.calm = true) (S : CSc X scope fr ix) (hi : PI X tg iter wi)
    (hg : ∀ s H ex, PG (cCx X (loc ++ fr) scope s H ex) tg g) (hf : ∀ s H ex, PF (cCx X (loc ++ fr) scope s H ex) ifs tf) (he : ∀ s H ex, PE (cCx X (loc ++ fr) scope s H ex) elt te)
    (hsw : swapsWith (.ListComp elt [⟨tg, iter, ifs, 0⟩] scope pos) (some (.Name y py)) spos.line X.env = pure true := by rfl) (hs : ∀ x, foldedSetIterable iter X.env x = pure x := by intro _; rfl) :
    PS X (.Assign [.Name y py] (.ListComp elt [⟨tg, iter, ifs, 0⟩] scope pos) spos) (tAsg (tComp loc.length ix wi g tf te) (gName i)) := by
  intro pins s σ H D I h
  have hnames : ∀ y ∈ scope.names, y.2 = .local -> scope.names.lookup y.1 = some .local := λ y hy e => by
    have := List.all_eq_true.mp S.loc y hy
    rw [e] at this
    simpa using this
  rw [exec_Assign_Name_used _ _ _ _ hsw]
  refine wpAny_bind (wpAny_standAt (wpAny_bind ?_))
  show wpAny _ _ (do let _ <- comprehension (.ListComp elt [⟨tg, iter, ifs, 0⟩] scope pos) scope X.env _ (newList []) false (eval iter X.env) (some (assign (.Name y py) X.env))) _ _ s
  refine wpAny_bind (wpAny_mono (wpAny_comprehension_free (use := some (assign (.Name y py) X.env)) (Q := λ _ s' => SP X pins D .next s') rfl hs (closureFor_eq (S.clos I.ok)) S.kind hnames
    (thn (hi pins s σ H _ I h) λ v s1 h1 => thn h1 λ itv s2 h2 => ?_)) (λ _ s' hq => wpAny_pure (wpAny_pure hq)) λ _ _ e => e)
  obtain ⟨it, fp, tn, J, H2, rfl, I2, T, st2, f2, hW⟩ := h2
  refine comp_block (RR := λ acc C => compPost (model X.prog X.w) X.A X.xe (some (assign (.Name y py) X.env)) (λ _ s' => SP X pins D .next s') acc C) hc S hg hf he I2 T st2 f2 hW λ s3 s6 H5 σ5 L I3 I6 f3 q => ?_
  have J6 : Inv X pins σ H5 s6 := after_block (h'' := s6.heap) I3 I6 f3 (.refl ..)
  obtain ⟨m, hm, _⟩ := I6.loc
  have hm : s6.heap.Ns s3.heap.objs.size m := hm
  have hL : s3.heap.objs.size ≠ X.env.locals := Ne.symm (Nat.ne_of_lt I3.lt)
  show wpAny _ _ (assign (.Name y py) X.env (.ref L)) _ _ s6
  refine wpAny_assign_Name (store_ok2 (v := .ref L) J6 hN hiN (.inl hy) rfl (λ s7 I7 ⟨a, sb, ha⟩ => ?_) (.inr hy))
  have hca : s3.heap.objs.size ≠ a := by
    rcases ha with rfl | ha
    . exact hL
    . obtain ⟨v, z⟩ := I3.cell y a ha
      exact Ne.symm (Nat.ne_of_lt z.lt)
  refine ⟨m, hm.sameBut sb hca, λ h' hs' => ?_⟩
  refine ⟨_, H5, I7.turned (t' := s7.toks) (it := s3.heap.objs.size) (λ b o hb e => (hs'.2 b hb).trans e) I6.free hL (.inr I3.sz) (λ x c e z => ?_) (λ p hp z => ?_), q⟩
  . obtain ⟨v, w⟩ := I3.cell x c e
    exact absurd w.lt (by rw [z]; exact Nat.lt_irrefl _)
  . exact absurd (Heap.lt_size (I3.pin p hp).1) (by rw [z]; exact Nat.lt_irrefl _)
end
end L2
namespace L2
open PySem PySem.Spec PyProof.Rows
mutual
def Rep (K : PySem.W.Frag) (H : Hp) : PyData -> V -> Prop
  | .none, v => v = .non
  | .bool b, v => v = .bl b
  | .int i, v => v = .int i
  | .str x, v => v = .str x
  | .list ds, v => ∃ a xs, v = .ref a /\ SqL K H a xs /\ RepAll K H ds xs
  | .tuple ds, v => ∃ a xs, v = .ref a /\ SqT K H a xs /\ RepAll K H ds xs
  | .dict _, _ => False
def RepAll (K : PySem.W.Frag) (H : Hp) : List PyData -> List V -> Prop
  | [], xs => xs = []
  | d :: ds, xs => ∃ x r, xs = x :: r /\ Rep K H d x /\ RepAll K H ds r
end
section
variable {X : Cx} {pins : List (Addr × Obj)} {σ : St} {H : Hp} {s : Shared}
mutual
theorem rep_reads (I : Inv X pins σ H s) : ∀ (d : PyData) (v : V) (u : Value), Rep X.K H d v -> RelV v u -> ∃ as, Reads s.heap u d as
  | .none, v, u, h, r => by
    have h : v = .non := by simpa only [Rep] using h
    subst h; cases r; exact ⟨_, .none⟩
  | .bool b, v, u, h, r => by
    have h : v = .bl b := by simpa only [Rep] using h
    subst h; cases r; exact ⟨_, .bool b⟩
  | .int i, v, u, h, r => by
    have h : v = .int i := by simpa only [Rep] using h
    subst h; obtain ⟨t, rfl⟩ := r; exact ⟨_, .int i t⟩
  | .str x, v, u, h, r => by
    have h : v = .str x := by simpa only [Rep] using h
    subst h; obtain ⟨t, rfl⟩ := r; exact ⟨_, .str x t⟩
  | .list ds, v, u, h, r => by
    have h : ∃ a xs, v = .ref a /\ SqL X.K H a xs /\ RepAll X.K H ds xs := by simpa only [Rep] using h
    obtain ⟨a, xs, rfl, hq, ha⟩ := h
    cases r
    obtain ⟨its, rv, ⟨o, n, e, c, _, dd⟩, hz⟩ := I.list hq
    obtain ⟨as, q⟩ := rep_readsAll I ds xs its ha rv
    exact ⟨_, .list e c dd (by simpa using q)⟩
  | .tuple ds, v, u, h, r => by
    have h : ∃ a xs, v = .ref a /\ SqT X.K H a xs /\ RepAll X.K H ds xs := by simpa only [Rep] using h
    obtain ⟨a, xs, rfl, hq, ha⟩ := h
    cases r
    obtain ⟨its, rv, ⟨o, e, c, n, dd⟩, hz⟩ := I.tuple hq
    obtain ⟨as, q⟩ := rep_readsAll I ds xs its ha rv
    exact ⟨_, .tuple e c dd (by simpa using q)⟩
  | .dict _, v, u, h, r => by
    have h : False := by simpa only [Rep] using h
    exact h.elim
theorem rep_readsAll (I : Inv X pins σ H s) : ∀ (ds : List PyData) (xs : List V) (us : List Value), RepAll X.K H ds xs -> Vals xs us -> ∃ as, ReadsAll s.heap us ds as
  | [], xs, us, h, r => by
    have h : xs = [] := by simpa only [RepAll] using h
    subst h; cases r; exact ⟨_, .nil⟩
  | d :: ds, xs, us, h, r => by
    have h : ∃ x r, xs = x :: r /\ Rep X.K H d x /\ RepAll X.K H ds r := by simpa only [RepAll] using h
    obtain ⟨x, rr, rfl, h1, h2⟩ := h
    cases r with
    | cons r1 r2 =>
      obtain ⟨as, q1⟩ := rep_reads I d _ _ h1 r1
      obtain ⟨bs, q2⟩ := rep_readsAll I ds _ _ h2 r2
      exact ⟨_, .cons q1 q2⟩
end
end
def Keep (S : List Addr) (H H' : Hp) : Prop := ∀ b o, H b = some o -> b ∉ S -> H' b = some o
theorem Keep.trans {S : List Addr} {H H1 H2 : Hp} (a : Keep S H H1) (b : Keep S H1 H2) : Keep S H H2 := λ c o h n => b c o (a c o h n) n
theorem Keep.new {S : List Addr} {H H' : Hp} {p : Addr} {o : HO} (a : Keep S H H') (h : H' p = none) : Keep S H (upd H' p o) := λ c u e n => by
  have q := a c u e n
  rw [upd_ne (ne_of_none q h)]; exact q
theorem Keep.mono {S S' : List Addr} {H H' : Hp} (a : Keep S H H') (h : ∀ b ∈ S, b ∈ S') : Keep S' H H' := λ c o e n => a c o e λ z => n (h c z)
structure Grow (H H' : Hp) : Prop where
  tup : ∀ b xs, H b = some (.tup xs) -> H' b = some (.tup xs)
  frz : ∀ b o u, H b = some (.frz o u) -> H' b = some (.frz o u)
theorem Grow.refl {H : Hp} : Grow H H := ⟨λ _ _ h => h, λ _ _ _ h => h⟩
theorem Grow.trans {H H1 H2 : Hp} (a : Grow H H1) (b : Grow H1 H2) : Grow H H2 := ⟨λ c xs h => b.tup c xs (a.tup c xs h), λ c o u h => b.frz c o u (a.frz c o u h)⟩
theorem Grow.new {H H' : Hp} {p : Addr} {o : HO} (a : Grow H H') (h : H' p = none) : Grow H (upd H' p o) := ⟨λ c xs e => by
  have q := a.tup c xs e
  rw [upd_ne (ne_of_none q h)]; exact q, λ c z u e => by
  have q := a.frz c z u e
  rw [upd_ne (ne_of_none q h)]; exact q⟩
def Chg (H : Hp) (p : Addr) : Prop := (∀ xs, H p ≠ some (.tup xs)) /\ ∀ o u, H p ≠ some (.frz o u)
theorem Grow.put {H H' : Hp} {p : Addr} {o : HO} (a : Grow H H') (h : Chg H' p) : Grow H (upd H' p o) := ⟨λ c xs e => by
  have q := a.tup c xs e
  have n : c ≠ p := λ z => h.1 xs (by rw [<- z]; exact q)
  rw [upd_ne n]; exact q, λ c z u e => by
  have q := a.frz c z u e
  have n : c ≠ p := λ w => h.2 z u (by rw [<- w]; exact q)
  rw [upd_ne n]; exact q⟩
theorem Chg.dK {H : Hp} {p : Addr} {kvs : List (Key × V)} (h : H p = some (.dK kvs)) : Chg H p := ⟨(λ _ e => by rw [h] at e; cases e), (λ _ _ e => by rw [h] at e; cases e)⟩
theorem Chg.lst {H : Hp} {p : Addr} {xs : List V} (h : H p = some (.lst xs)) : Chg H p := ⟨(λ _ e => by rw [h] at e; cases e), (λ _ _ e => by rw [h] at e; cases e)⟩
theorem Grow.sq {K : PySem.W.Frag} {H H' : Hp} {a : Addr} {xs : List V} (g : Grow H H') (h : SqT K H a xs) : SqT K H' a xs := by
  rcases h with (h | ⟨o, h⟩) | h
  . exact .inl (.inl (g.tup _ _ h))
  . exact .inl (.inr ⟨o, g.frz _ _ _ h⟩)
  . exact .inr h
mutual
/-- no list in it -/
def Imm : PyData -> Bool
  | .none | .bool _ | .int _ | .str _ => true
  | .list _ => false
  | .tuple ds => ImmAll ds
  | .dict _ => false
def ImmAll : List PyData -> Bool
  | [] => true
  | d :: ds => Imm d && ImmAll ds
end
mutual
theorem Rep.grow {K : PySem.W.Frag} {H H' : Hp} (g : Grow H H') : ∀ (d : PyData) (v : V), Imm d = true -> Rep K H d v -> Rep K H' d v
  | .none, v, _, h => by simpa only [Rep] using h
  | .bool b, v, _, h => by simpa only [Rep] using h
  | .int i, v, _, h => by simpa only [Rep] using h
  | .str x, v, _, h => by simpa only [Rep] using h
  | .list ds, v, m, h => by simp [Imm] at m
  | .tuple ds, v, m, h => by
    have h : ∃ a xs, v = .ref a /\ SqT K H a xs /\ RepAll K H ds xs := by simpa only [Rep] using h
    obtain ⟨a, xs, e, hq, ha⟩ := h
    simp only [Rep]
    exact ⟨a, xs, e, g.sq hq, RepAll.grow g ds xs (by simpa only [Imm] using m) ha⟩
  | .dict _, v, m, h => by simp [Imm] at m
theorem RepAll.grow {K : PySem.W.Frag} {H H' : Hp} (g : Grow H H') : ∀ (ds : List PyData) (xs : List V), ImmAll ds = true -> RepAll K H ds xs -> RepAll K H' ds xs
  | [], xs, _, h => by simpa only [RepAll] using h
  | d :: ds, xs, m, h => by
    have h : ∃ x r, xs = x :: r /\ Rep K H d x /\ RepAll K H ds r := by simpa only [RepAll] using h
    obtain ⟨x, r, e, h1, h2⟩ := h
    have m : Imm d = true /\ ImmAll ds = true := by simpa [ImmAll] using m
    simp only [RepAll]
    exact ⟨x, r, e, Rep.grow g d x m.1 h1, RepAll.grow g ds r m.2 h2⟩
end
section
variable {X : Cx}
def rNeD (K : PySem.W.Frag) : R2 := λ x y H Q => ∃ d e, Rep K H d x /\ Rep K H e y /\ d.canLay0 = true /\ e.canLay0 = true /\ min d.depth e.depth <= 60 /\ Q (.bl (!PyData.eqv d e)) H
def rEqD (K : PySem.W.Frag) : R2 := λ x y H Q => ∃ d e, Rep K H d x /\ Rep K H e y /\ d.canLay0 = true /\ e.canLay0 = true /\ min d.depth e.depth <= 60 /\ Q (.bl (PyData.eqv d e)) H
theorem op_neD (hu : X.A.units + 64 < cLine) : OpR X (compareOp .NotEq) (rNeD X.K) := by
  intro pins s σ H x y v u Q I rx ry h
  obtain ⟨d, e, h1, h2, c1, c2, hm, q⟩ := h
  obtain ⟨as, q1⟩ := rep_reads I d x v h1 rx
  obtain ⟨bs, q2⟩ := rep_reads I e y u h2 ry
  exact PySem.SeqAt.compareNe_reads q1 q2 c1 c2 (by omega) ⟨.bl _, H, I, rfl, q⟩
theorem op_eqD (hu : X.A.units + 64 < cLine) : OpR X (compareOp .Eq) (rEqD X.K) := by
  intro pins s σ H x y v u Q I rx ry h
  obtain ⟨d, e, h1, h2, c1, c2, hm, q⟩ := h
  obtain ⟨as, q1⟩ := rep_reads I d x v h1 rx
  obtain ⟨bs, q2⟩ := rep_reads I e y u h2 ry
  exact PySem.SeqAt.compareEq_reads q1 q2 c1 c2 (by omega) ⟨.bl _, H, I, rfl, q⟩
theorem ints_of : ∀ {ns : List Int} {us : List Value}, Vals (ns.map V.int) us -> IntsAre us ns
  | [], _, .nil => .nil
  | n :: ns, _, .cons r t => by obtain ⟨k, rfl⟩ := r; exact .cons _ _ (ints_of t)
theorem call_sumL (hc : X.calm = true) : CallR X (.builtin "sum") (λ xs H Q => ∃ (a : Addr) (ns : List Int), xs = [.ref a] /\ SqL X.K H a (ns.map V.int) /\ Q (.int ns.sum) H) := by
  intro pins s σ H xs us Q I r h
  obtain ⟨a, ns, rfl, hq, q⟩ := h
  obtain ⟨u, rfl, ru⟩ := vals1 r
  cases ru
  obtain ⟨its, rv, p, hz⟩ := I.list hq
  have hi := ints_of rv
  obtain ⟨xs, hx⟩ := hi.allInts.items
  have hl' : s.heap.IsList a (intItems xs) := hx ▸ p.isList
  refine sum_intListG (I.ok.hd hc) hl' λ h' tk t' hk => ?_
  have e1 : ns = xs.toList.map (·.1) := by
    rw [<- nums_intItems, <- hx]
    exact (show numsOf its.toArray.toList = ns from hi.numsOf).symm
  have e2 : preSum (numAt xs) xs.size = ns.sum := by
    rw [preSum_eq, List.take_of_length_le (by simp), e1]
  rw [e2]
  exact ⟨.int ns.sum, H, I.kept hk, ⟨_, rfl⟩, q⟩
end
end L2
namespace L2
open PySem PySem.Spec PyProof.Rows
section
variable (K : PySem.W.Frag) {X : Cx}
theorem ix_listK (hK : X.K = K := by rfl) : IxR X (rIxL K) := by subst hK; exact ix_list
theorem ix_tupK (hK : X.K = K := by rfl) : IxR X (rIxT K) := by subst hK; exact ix_tup
theorem sl_listK (hK : X.K = K := by rfl) : SlR X (rSlL K) := by subst hK; exact sl_list
theorem op_inK (hK : X.K = K := by rfl) : OpR X (compareOp .In) (rIn K false) := by subst hK; exact op_in_seq
theorem op_eqDK (hu : X.A.units + 64 < cLine) (hK : X.K = K := by rfl) : OpR X (compareOp .Eq) (rEqD K) := by subst hK; exact op_eqD hu
theorem op_neDK (hu : X.A.units + 64 < cLine) (hK : X.K = K := by rfl) : OpR X (compareOp .NotEq) (rNeD K) := by subst hK; exact op_neD hu
theorem op_catTK (hK : X.K = K := by rfl) : OpR X (binaryOp .Add) (rCatT K) := by subst hK; exact op_catT
def rLen : List V -> Hp -> VK -> Prop := λ xs H Q => ∃ p ys, xs = [.ref p] /\ (SqL K H p ys ∨ SqT K H p ys) /\ Q (.int ys.length) H
theorem call_lenK (hK : X.K = K := by rfl) : CallR X (.builtin "len") (rLen K) := by subst hK; exact call_len_seq
def rListOf : List V -> Hp -> VK -> Prop := λ xs H Q => ∃ p ys, xs = [.ref p] /\ (SqL K H p ys ∨ SqT K H p ys) /\ ∀ l, H l = none -> Q (.ref l) (upd H l (.lst ys))
theorem call_listK (hK : X.K = K := by rfl) : CallR X (.type "list") (rListOf K) := by subst hK; exact call_list_of
def rTupleOf : List V -> Hp -> VK -> Prop := λ xs H Q => ∃ p ys, xs = [.ref p] /\ ((SqL K H p ys /\ ∀ l, H l = none -> Q (.ref l) (upd H l (.tup ys))) ∨ (SqT K H p ys /\ Q (.ref p) H))
theorem call_tupleK (hK : X.K = K := by rfl) : CallR X (.type "tuple") (rTupleOf K) := by subst hK; exact call_tuple_of
def rSumL : List V -> Hp -> VK -> Prop := λ xs H Q => ∃ (a : Addr) (ns : List Int), xs = [.ref a] /\ SqL K H a (ns.map V.int) /\ Q (.int ns.sum) H
theorem call_sumK (hc : X.calm = true) (hK : X.K = K := by rfl) : CallR X (.builtin "sum") (rSumL K) := by subst hK; exact call_sumL hc
theorem pi_listK {tg l : Expr} {tl : TE} (hl : PE X l tl) (hK : X.K = K := by rfl) : PI X tg l (iList K tl) := by subst hK; exact pi_list hl
theorem pi_tupK {tg l : Expr} {tl : TE} (hl : PE X l tl) (hK : X.K = K := by rfl) : PI X tg l (iTup K tl) := by subst hK; exact pi_tup hl
theorem pg_tupK {pos : Pos} {es : List Expr} {k : Nat} {t : TGs} {n : Nat} (hc : X.calm = true) (h : PGs X es t) (hK : X.K = K := by rfl)
    (hn : (assignEach es X.env).length = n := by rfl) (hst : (assignEach es X.env).findIdx? (·.1) = none := by rfl) : PG X (.Tuple es k pos) (gTup K n t) := by
  subst hK
  exact pg_tup hc h hn hst
end
section
variable (K : PySem.W.Frag) {X : Cx}
end
end L2
namespace L2
open PySem PySem.Spec PyProof.Rows
section
variable (K : PySem.W.Frag) {X : Cx}
theorem bools_get : ∀ {bs : List Bool} {us : List Value} {i : Nat} {v : Value}, Vals (bs.map V.bl) us -> us[i]? = some v -> ∃ b, bs[i]? = some b /\ v = .bool b
  | [], _, _, _, .nil, e => by simp at e
  | b :: bs, _, 0, _, .cons r _, e => by simp at e; subst e; exact ⟨b, rfl, r⟩
  | b :: bs, _, i + 1, _, .cons _ t, e => by
    obtain ⟨c, h1, h2⟩ := bools_get (i := i) t (by simpa using e)
    exact ⟨c, by simpa using h1, h2⟩
def rAll : List V -> Hp -> VK -> Prop := λ xs H Q => ∃ (a : Addr) (bs : List Bool), xs = [.ref a] /\ SqL K H a (bs.map V.bl) /\ Q (.bl (bs.all id)) H
def rAny : List V -> Hp -> VK -> Prop := λ xs H Q => ∃ (a : Addr) (bs : List Bool), xs = [.ref a] /\ SqL K H a (bs.map V.bl) /\ Q (.bl (bs.any id)) H
theorem call_allK (hc : X.calm = true) (hK : X.K = K := by rfl) : CallR X (.builtin "all") (rAll K) := by
  subst hK
  intro pins s σ H xs us Q I r h
  obtain ⟨a, bs, rfl, hq, q⟩ := h
  obtain ⟨u, rfl, ru⟩ := vals1 r
  cases ru
  obtain ⟨its, rv, p, hz⟩ := I.list hq
  have hl := p.isList
  have hlen := rv.length
  have hlt : a < s.heap.objs.size := by obtain ⟨_, e, _⟩ := hl; exact Heap.lt_size e
  refine call_all_walk (wpAny_pyIter_list hl ?_)
  refine ⟨s.heap.objs.size, [s.heap.objs.size, a], [s.heap.objs.size], its.toArray.size, _, _, λ i => (bs[i]?).getD true, rfl, Walks.list (A := X.A.in1) (I.ok.hd hc) _ a (Nat.ne_of_lt hlt) its.toArray,
    ⟨⟨_, Heap.get?_push_size _ rfl, rfl, rfl⟩, hl.push _⟩, λ i v s' Q' E' hP hQ => ?_, λ h' tk hk => ?_⟩
  . obtain ⟨b, e, rfl⟩ := bools_get rv (by simpa using hP)
    simp only [e, Option.getD_some] at hQ
    exact wpAny_truthy_bool hQ
  . have e : ((List.range its.toArray.size).all λ i => (bs[i]?).getD true) = bs.all id := by
      rw [List.size_toArray, <- hlen, List.length_map]; exact LSm.range_all bs
    rw [e]
    exact ⟨.bl _, H, I.kept (LSm.kept_iter hk), rfl, q⟩
theorem call_anyK (hc : X.calm = true) (hK : X.K = K := by rfl) : CallR X (.builtin "any") (rAny K) := by
  subst hK
  intro pins s σ H xs us Q I r h
  obtain ⟨a, bs, rfl, hq, q⟩ := h
  obtain ⟨u, rfl, ru⟩ := vals1 r
  cases ru
  obtain ⟨its, rv, p, hz⟩ := I.list hq
  have hl := p.isList
  have hlen := rv.length
  have hlt : a < s.heap.objs.size := by obtain ⟨_, e, _⟩ := hl; exact Heap.lt_size e
  refine call_any_walk (wpAny_pyIter_list hl ?_)
  refine ⟨s.heap.objs.size, [s.heap.objs.size, a], [s.heap.objs.size], its.toArray.size, _, _, λ i => (bs[i]?).getD false, rfl, Walks.list (A := X.A.in1) (I.ok.hd hc) _ a (Nat.ne_of_lt hlt) its.toArray,
    ⟨⟨_, Heap.get?_push_size _ rfl, rfl, rfl⟩, hl.push _⟩, λ i v s' Q' E' hP hQ => ?_, λ h' tk hk => ?_⟩
  . obtain ⟨b, e, rfl⟩ := bools_get rv (by simpa using hP)
    simp only [e, Option.getD_some] at hQ
    exact wpAny_truthy_bool hQ
  . have e : ((List.range its.toArray.size).any λ i => (bs[i]?).getD false) = bs.any id := by
      rw [List.size_toArray, <- hlen, List.length_map]; exact LSm.range_any bs
    rw [e]
    exact ⟨.bl _, H, I.kept (LSm.kept_iter hk), rfl, q⟩
def rSorted : List V -> Hp -> VK -> Prop := λ xs H Q => ∃ (a : Addr) (ns : List Int), xs = [.ref a] /\ SqL K H a (ns.map V.int) /\ ns.length < 64 /\ ∀ (p : Addr) (ns' : List Int), H p = none -> ns'.Perm ns -> ns'.Pairwise (· <= ·) -> Q (.ref p) (upd H p (.lst (ns'.map V.int)))
theorem vals_of : ∀ {ns : List Int} {us : List Value}, IntsAre us ns -> Vals (ns.map V.int) us
  | [], _, .nil => .nil
  | _ :: _, _, .cons _ _ t => .cons ⟨_, rfl⟩ (vals_of t)
theorem call_sortedK (hK : X.K = K := by rfl) : CallR X (.builtin "sorted") (rSorted K) := by
  subst hK
  intro pins s σ H xs us Q I r h
  obtain ⟨a, ns, rfl, hq, h64, q⟩ := h
  obtain ⟨u, rfl, ru⟩ := vals1 r
  cases ru
  obtain ⟨its, rv, p, hz⟩ := I.list hq
  have hlen := rv.length
  rw [List.length_map] at hlen
  refine sorted_ints p.isList (ints_of rv) (by omega) λ out ns' a1 a2 a3 => ?_
  obtain ⟨e, he⟩ := sortedAll_at s.heap its out
  have hl' : ns'.length = ns.length := a2.length_eq
  refine ⟨.ref (s.heap.objs.size + 1), _, I.laid (a := s.heap.objs.size + 1) (o := .lst (ns'.map V.int)) (t' := s.toks) (λ b o hb => sortedAll_old hb) (Nat.le_succ _) ⟨?_, out.toList, e, vals_of a1, he⟩, rfl, q _ _ (I.hok.fresh (Nat.le_succ _)) a2 a3⟩
  rw [List.length_map, hl']
  exact Nat.le_of_lt (small1000 (by omega))
def rMaxL : List V -> Hp -> VK -> Prop := λ xs H Q => ∃ (a : Addr) (ns : List Int), xs = [.ref a] /\ SqL K H a (ns.map V.int) /\ 0 < ns.length /\ ∀ M : Int, M ∈ ns -> (∀ x ∈ ns, x <= M) -> Q (.int M) H
theorem call_maxK (hc : X.calm = true) (hK : X.K = K := by rfl) : CallR X (.builtin "max") (rMaxL K) := by
  subst hK
  intro pins s σ H xs us Q I r h
  obtain ⟨a, ns, rfl, hq, hne, q⟩ := h
  obtain ⟨u, rfl, ru⟩ := vals1 r
  cases ru
  obtain ⟨its, rv, p, hz⟩ := I.list hq
  have hi := ints_of rv
  obtain ⟨ys, e⟩ := hi.allInts.items
  have hns : ns = ys.toList.map (·.1) := by
    rw [<- hi.numsOf, <- nums_intItems, <- e]
  have hsz : 0 < ys.size := by
    have h3 := hne; rw [hns, List.length_map, Array.length_toList] at h3; exact h3
  have hl := p.isList
  rw [e] at hl
  refine max_intList (I.ok.hd hc) hl hsz λ v h' tk hv hk => ?_
  obtain ⟨t, rfl⟩ := intItems_at hv
  obtain ⟨h1, h2⟩ := argBest_gt (numAt ys) (ys.size - 1)
  refine ⟨.int _, H, I.kept hk, ⟨t, rfl⟩, q _ ?_ λ x hx => ?_⟩
  . rw [hns, numAt_eq]; exact getD_mem (by rw [List.length_map, Array.length_toList]; omega)
  . rw [hns] at hx
    obtain ⟨j, hj, rfl⟩ := mem_getD hx
    rw [List.length_map, Array.length_toList] at hj
    rw [<- numAt_eq]; exact h2 j (by omega)
def rMinL : List V -> Hp -> VK -> Prop := λ xs H Q => ∃ (a : Addr) (ns : List Int), xs = [.ref a] /\ SqL K H a (ns.map V.int) /\ 0 < ns.length /\ ∀ M : Int, M ∈ ns -> (∀ x ∈ ns, M <= x) -> Q (.int M) H
theorem call_minK (hc : X.calm = true) (hK : X.K = K := by rfl) : CallR X (.builtin "min") (rMinL K) := by
  subst hK
  intro pins s σ H xs us Q I r h
  obtain ⟨a, ns, rfl, hq, hne, q⟩ := h
  obtain ⟨u, rfl, ru⟩ := vals1 r
  cases ru
  obtain ⟨its, rv, p, hz⟩ := I.list hq
  have hi := ints_of rv
  obtain ⟨ys, e⟩ := hi.allInts.items
  have hns : ns = ys.toList.map (·.1) := by
    rw [<- hi.numsOf, <- nums_intItems, <- e]
  have hsz : 0 < ys.size := by
    have h3 := hne; rw [hns, List.length_map, Array.length_toList] at h3; exact h3
  have hl := p.isList
  rw [e] at hl
  refine min_intList (I.ok.hd hc) hl hsz λ v h' tk hv hk => ?_
  obtain ⟨t, rfl⟩ := intItems_at hv
  obtain ⟨h1, h2⟩ := argBest_lt (numAt ys) (ys.size - 1)
  refine ⟨.int _, H, I.kept hk, ⟨t, rfl⟩, q _ ?_ λ x hx => ?_⟩
  . rw [hns, numAt_eq]; exact getD_mem (by rw [List.length_map, Array.length_toList]; omega)
  . rw [hns] at hx
    obtain ⟨j, hj, rfl⟩ := mem_getD hx
    rw [List.length_map, Array.length_toList] at hj
    rw [<- numAt_eq]; exact h2 j (by omega)
end
end L2
namespace L2
open PySem PySem.Spec PyProof.Rows
section
variable {prog : Program} {w : World} {A : Around} {E : Value -> Shared -> Prop} {s : Shared} {l : Addr} {xs : Array (Int × Tok)}
theorem iter_intTuple {Q : Value -> Shared -> Prop} (hl : s.heap.IsTuple l (intItems xs))
    (h : ∀ s₂ : Shared, s₂ = { s with heap := s.heap.push { cls := .type "tuple_iterator", data := .fields #[.ref l, .int 0 0] } } ->
      (s₂.heap.IsTupleIter s.heap.objs.size l 0 /\ s₂.heap.IsTuple l (intItems xs)) -> (∀ b ∈ [s.heap.objs.size, l], b < s₂.heap.objs.size) -> l ≠ s.heap.objs.size -> Q (.ref s.heap.objs.size) s₂) :
    wpAny (model prog w) A (pyIter (.ref l)) Q E s := by
  have hlt : l < s.heap.objs.size := by obtain ⟨_, e, _⟩ := hl; exact Heap.lt_size e
  refine wpAny_pyIter_tuple hl (h _ rfl ⟨⟨_, Heap.get?_push_size _ rfl, rfl, rfl⟩, hl.push _⟩ (λ b hb => ?_) (Nat.ne_of_lt hlt))
  show b < (s.heap.push _).objs.size
  rw [Heap.size_push]
  rcases List.mem_cons.mp hb with rfl | hb
  . exact Nat.lt_succ_self _
  . rcases List.mem_cons.mp hb with rfl | hb
    . exact Nat.lt_succ_of_lt hlt
    . cases hb
theorem old_keptT {h' : Heap} {o : Obj} (hk : ∀ b x, b ∉ [s.heap.objs.size] -> (s.heap.push o).get? b = some x -> h'.get? b = some x) : ∀ b x, s.heap.get? b = some x -> h'.get? b = some x :=
  λ b x e => hk b x (λ hm => by rw [List.mem_singleton.mp hm] at e; exact Nat.lt_irrefl _ (Heap.lt_size e)) (Heap.get?_push_of_some _ e)
theorem sum_intTuple {Q : Value -> Shared -> Prop} (hh : A.handled = none) (hl : s.heap.IsTuple l (intItems xs))
    (h : ∀ h' tk t', (∀ b o, s.heap.get? b = some o -> h'.get? b = some o) -> Q (.int (preSum (numAt xs) xs.size) t') { s with heap := h', toks := tk }) :
    wpAny (model prog w) A (call (.builtin "sum") [.ref l]) Q E s := by
  refine call_sum_walkG (iter_intTuple hl λ s₂ e st hfp hlI => ?_)
  subst e
  refine ⟨_, _, _, _, _, _, numAt xs, rfl, Walks.tuple (A := A.in1) hh _ l hlI (intItems xs), st, hfp, (λ _ _ => intItems_at), λ h' tk t' hk => ?_⟩
  have := h h' tk t' (old_keptT hk)
  simpa [intItems] using this
end
section
variable (K : PySem.W.Frag) {X : Cx}
def rSumT : List V -> Hp -> VK -> Prop := λ xs H Q => ∃ (a : Addr) (ns : List Int), xs = [.ref a] /\ SqT K H a (ns.map V.int) /\ Q (.int ns.sum) H
theorem call_sumTK (hc : X.calm = true) (hK : X.K = K := by rfl) : CallR X (.builtin "sum") (rSumT K) := by
  subst hK
  intro pins s σ H xs us Q I r h
  obtain ⟨a, ns, rfl, hq, q⟩ := h
  obtain ⟨u, rfl, ru⟩ := vals1 r
  cases ru
  obtain ⟨its, rv, p, hz⟩ := I.tuple hq
  have hi := ints_of rv
  obtain ⟨xs, hx⟩ := hi.allInts.items
  have hl' : s.heap.IsTuple a (intItems xs) := hx ▸ (show s.heap.IsTuple a its.toArray from p)
  refine sum_intTuple (I.ok.hd hc) hl' λ h' tk t' hk => ?_
  have e1 : ns = xs.toList.map (·.1) := by
    rw [<- nums_intItems, <- hx]
    exact (show numsOf its.toArray.toList = ns from hi.numsOf).symm
  have e2 : preSum (numAt xs) xs.size = ns.sum := by
    rw [preSum_eq, List.take_of_length_le (by simp), e1]
  rw [e2]
  exact ⟨.int ns.sum, H, I.kept hk, ⟨_, rfl⟩, q⟩
end
end L2
namespace L2
open PySem PySem.Spec PyProof.Rows
structure DefAt (K : PySem.W.Frag) (mg : Str -> Option Value) (x : Str) (st : Stmt) (f : Addr) (fd : FuncData) (ps : List Str) : Prop where
  fn : Fun K x x st f fd
  mg : mg x = some (.ref f)
  bd : Binds K fd ps []
theorem pcall {X : Cx} {j k : Nat} {f : Addr} {fd : FuncData} {ps : List Str} {sp : Sp} {x : Str} {st : Stmt} {e : Expr} {es : List Expr} {t : TA} {p pos : Pos} (F : FnOk X.prog X.w X.K X.mg X.base CX0 j f fd ps sp) (hr : Room k X.A) (D : DefAt X.K X.mg x st f fd ps) (ha : PA X (e :: es) t)
    (hjk : j <= k := by decide) (hg : Gl X x := by rfl) (hdb : (x == ("__debug__" : Str)) = false := by decide) (he : starEach (e :: es) X.env = (false, eval e X.env) :: starEach es X.env := by rfl) (hpl : (backTo pos (starEach es X.env)).any (·.1) = false := by rfl) :
    PE X (.Call (.Name x p) (e :: es) [] pos) (tCall sp [] E0 t) :=
  pe_call (F.mono hjk) hr hg D.mg D.fn.kp D.bd .nil pass0 ha hdb he hpl
theorem bt_list : bootBuiltins "list" = some (.type "list") := by decide +kernel
theorem bt_tuple : bootBuiltins "tuple" = some (.type "tuple") := by decide +kernel
theorem bt_len : bootBuiltins "len" = some (.builtin "len") := by decide +kernel
theorem bt_sum : bootBuiltins "sum" = some (.builtin "sum") := by decide +kernel
theorem bt_min : bootBuiltins "min" = some (.builtin "min") := by decide +kernel
theorem bt_sorted : bootBuiltins "sorted" = some (.builtin "sorted") := by decide +kernel
theorem bt_all : bootBuiltins "all" = some (.builtin "all") := by decide +kernel
theorem bt_any : bootBuiltins "any" = some (.builtin "any") := by decide +kernel
theorem bt_isinstance : bootBuiltins "isinstance" = some (.builtin "isinstance") := by decide +kernel
def tapeKV (c : Addr) (n l u : Int) : List (Key × V) := [(.inr "cells", .ref c), (.inr "next", .int n), (.inr "left", .int l), (.inr "turn", .int u)]
section
variable (c : Addr) (n l u v : Int)
end
def Tape (H : Hp) (t c : Addr) : Prop := ∃ (ns : List Int) (n l u : Int), H t = some (.dK (tapeKV c n l u)) /\ H c = some (.lst (ns.map V.int)) /\ 0 <= n
theorem Tape.keep {H H' : Hp} {t c : Addr} (T : Tape H t c) (k : Keep [] H H') : Tape H' t c := by
  obtain ⟨ns, n, l, u, h1, h2, h3⟩ := T
  exact ⟨ns, n, l, u, k _ _ h1 (by simp), k _ _ h2 (by simp), h3⟩
mutual
theorem canLay_ints : ∀ ns : List Int, PyData.canLayAll0 (ns.map PyData.int) = true
  | [] => by simp [PyData.canLayAll0]
  | n :: ns => by simp [PyData.canLayAll0, PyData.canLay0, canLay_ints ns]
end
end L2
namespace L2
open PySem PySem.Spec PyProof.Rows PySem.W
def lCx (X : Cx) (A : Around) (N' : List Str) (qual : Str) (scope : Scope) (f : Addr) (cd : Value) (cl : List (Str × Addr)) (s : Shared) (H : Hp) : Cx :=
  { X with N := N', s₀ := s, H₀ := H, A := A.deeper (envX qual scope s.heap.objs.size f cd cl), env := envX qual scope s.heap.objs.size f cd cl, outer := X.stack, stack := envX qual scope s.heap.objs.size f cd cl :: X.stack, ex := [], fn := λ _ => false, calm := true, pn := [], xe := λ _ _ => False }
structure LSc (scope : Scope) (p : Str) : Prop where
  nocell : (scope.names.all λ y => y.2 != .cell) = true
  par : scope.names.lookup p = some .local
  co : scope.isCoroutine = false
  gen : scope.isGenerator = false
section
variable {X : Cx} {scope : Scope} {fr : List Str} {ix : List Nat} {pins : List (Addr × Obj)} {σ : St} {H : Hp} {s : Shared} {p : Str}
theorem LSc.ne (L : LSc scope p) : ∀ y ∈ scope.names, y.2 ≠ .cell := λ y hy e => by
  have := List.all_eq_true.mp L.nocell y hy
  rw [e] at this
  revert this; decide
theorem inv_lam (S : CSc X scope fr ix) (L : LSc scope p) (I : Inv X pins σ H s) {A : Around} (hf : A.frames = X.A.frames) (hh : A.handled = none) {qual : Str} {f : Addr} {cd : Value} {h' : Heap} {x : V} {u : Value} {t' : Nat}
    (hk : ∀ b o, s.heap.get? b = some o -> h'.get? b = some o) (hn : h'.Ns s.heap.objs.size λ y => if y = p then some u else none) (r : RelV x u) :
    Inv (lCx X A (p :: fr) qual scope f cd (closOf X.env.cells scope.names []) s H) [] (some x :: ix.map λ i => (σ[i]?).join) H { s with heap := h', toks := t' } := by
  have lenix : fr.length = ix.length := by simpa using congrArg List.length S.ixs
  have co : ∀ x c, (closOf X.env.cells scope.names []).lookup x = some c -> X.env.cells.lookup x = some c := λ x c e => closOf_old (S.clos I.ok) (λ _ _ z => by simp at z) x c e
  refine ⟨⟨I.ok.mod, S.kind, rfl, rfl, Nat.le_refl _, ?_, ?_, ?_, λ _ => hh, Around.frames_deeper (hf.trans I.ok.frames), .inr ⟨rfl, rfl⟩, ?_, I.bs, Nat.le_trans I.ok.bsz I.sz, ?_, ?_, I.stack, I.stkFree⟩, rfl, I.bare, Un.kept hk, ⟨_, hn, ?_⟩, ?_, I.hok.fresh (Nat.le_refl _), ?_, ?_, I.hok.kept hk, ?_⟩
  . intro x y c e1 e2
    exact I.ok.inj x y c (co x c e1) (co y c e2)
  . intro x hx
    rcases hx with e | e
    . exact absurd rfl (L.ne (x, .cell) (PySem.mem_of_lookup e))
    . exact Option.isSome_iff_exists.mp (closOf_has (.inr (PySem.mem_of_lookup e)))
  . intro x c hf; cases hf
  . intro b hb; cases hb
  . intro b o e hb; cases hb
  . intro b hb; cases hb
  . intro i y v e1 e2 e3
    cases i with
    | zero =>
      have e1 : some p = some y := e1
      have e2 : some (some x) = some (some v) := e2
      cases e1; cases e2
      exact ⟨u, r, .inl ⟨L.par, if_pos rfl⟩⟩
    | succ j =>
      have e1 : fr[j]? = some y := e1
      have e2 : (ix.map λ i => (σ[i]?).join)[j]? = some (some v) := e2
      rw [List.getElem?_map] at e2
      have e4 : (fr.map some)[j]? = some (some y) := by rw [List.getElem?_map, e1]; rfl
      rw [S.ixs, List.getElem?_map] at e4
      cases q : ix[j]? with
      | none => rw [q] at e2; cases e2
      | some k =>
        rw [q] at e2 e4
        have e2 : (σ[k]?).join = some v := Option.some.inj e2
        have e4 : X.N[k]? = some y := Option.some.inj e4
        have e5 : σ[k]? = some (some v) := by
          cases w : σ[k]? with
          | none => rw [w] at e2; cases e2
          | some z => rw [w] at e2; simpa using e2
        have hfx := List.all_eq_true.mp S.frs y (List.mem_of_getElem? e1)
        have hfx : scope.names.lookup y = some .free := by simpa using hfx
        have hmem := PySem.mem_of_lookup hfx
        have hout := S.outer hmem rfl
        obtain ⟨m, hm, hl⟩ := I.loc
        obtain ⟨u', r', l⟩ := hl k y v e4 e5 (.inr hout)
        refine ⟨u', r', .inr ⟨.inr hfx, ?_⟩⟩
        rcases l with ⟨kk, _⟩ | ⟨kk, c, ec, z⟩
        . rcases hout with w | w
          . rw [kk] at w; cases w
          . rw [kk] at w; cases w
        . obtain ⟨d, hd⟩ := Option.isSome_iff_exists.mp (closOf_has (cells := X.env.cells) (acc := []) (.inr hmem))
          have := co y d hd
          rw [ec] at this; cases this
          exact ⟨c, hd, z.keeps hk⟩
  . intro x c e
    obtain ⟨v, z⟩ := I.cell x c (co x c e)
    exact ⟨v, z.keeps hk⟩
  . intro x c e
    exact I.freeC x c (co x c e)
  . intro p hp; cases hp
  . show (_ :: _ : List (Option V)).length = (p :: fr).length
    simp [lenix]
theorem lam_call (S : CSc X scope fr ix) (L : LSc scope p) (I : Inv X pins σ H s) {A : Around} (hf : A.frames = X.A.frames) (hr : Room 1 A) {qual : Str} {f : Addr} {cd ctv pm : Value} {params : Arguments} {body : Expr} {x : V} {u : Value} {tb : TE} {Q : VK}
    (ho : s.heap.get? f = some { cls := .type "function", data := .func (kla_fn "<lambda>" qual params body scope (closOf X.env.cells scope.names []) pm cd ctv) }) (hcd : s.heap.CodeRec cd qual)
    (hb : ∀ us : Value, bindArgs (kla_fn "<lambda>" qual params body scope (closOf X.env.cells scope.names []) pm cd ctv) ⟨[us], []⟩ = pure [(p, us)])
    (he : ∀ (s : Shared) (H : Hp), PE (lCx X A (p :: fr) qual scope f cd (closOf X.env.cells scope.names []) s H) body tb) (r : RelV x u) (h : tb (some x :: ix.map λ i => (σ[i]?).join) H Q) :
    wpAny (model X.prog X.w) A (call (.ref f) [u]) (EP X pins σ Q) (λ _ _ => False) s := by
  refine wpAny_call (codeAny_mono (R := λ res s' => match res with | .ok (.ret u) => EP X pins σ Q u s' | _ => False) (kla_callFunE hr.depth ho rfl L.co L.gen rfl hcd ?_) ?_)
  . rw [hb]
    refine wpAny_pure ?_
    refine wpAny_newFunctionEnv L.ne (λ y hy => by rw [List.mem_singleton] at hy; subst hy; exact L.par) (λ h' hns hsb => ⟨?_, ?_⟩) S.kind
    . have hk : ∀ b o, s.heap.get? b = some o -> h'.get? b = some o := λ b o e => (hsb.2 b (Nat.ne_of_lt (Heap.lt_size e))).trans (Heap.get?_push_of_some _ e)
      exact I.nolimit.keeps hk
    . have hk : ∀ b o, s.heap.get? b = some o -> h'.get? b = some o := λ b o e => (hsb.2 b (Nat.ne_of_lt (Heap.lt_size e))).trans (Heap.get?_push_of_some _ e)
      have hns' : h'.Ns s.heap.objs.size λ y => if y = p then some u else none := by
        have e : (λ y => ([(p, u)] : List (Str × Value)).reverse.lookup y) = λ y => if y = p then some u else none := by
          funext y
          simp only [List.reverse_cons, List.reverse_nil, List.nil_append, List.lookup_cons, List.lookup_nil]
          by_cases hy : y = p
          . subst hy; simp
          . have hb' : (y == p) = false := beq_eq_false_iff_ne.mpr hy
            simp [hb', hy]
        rw [<- e]; exact hns
      have J := inv_lam (t' := s.toks + 1) (qual := qual) (f := f) (cd := cd) S L I hf hr.hd hk hns' r
      refine kla_codeExpr (wpAny_mono (he s H [] _ _ H Q J h) (λ v s' hv => ?_) λ _ _ z => z.elim)
      obtain ⟨y, H', J', ry, q⟩ := hv
      obtain ⟨hh, g, d, t, os'⟩ := s'
      obtain rfl : os' = s.os := J'.os
      exact ⟨y, H', I.call (h' := hh) (g' := g) (d' := d) (t' := t) (ch := []) J'.base J'.hok J'.bare (λ b z => absurd z (by simp)), ry, q⟩
  . intro res s' hq
    cases res with
    | error e => exact hq
    | ok fl =>
      cases fl with
      | ret u => exact hq
      | next => exact hq
      | brk => exact hq
      | cont => exact hq
end
end L2
namespace L2
open PySem PySem.Spec PyProof.Rows PySem.W
def cdF (c : Addr) (q : Str) : Heap -> Prop := λ h => h.CodeRec (.ref c) q
def GoodT (H : Hp) (q : Str) (pos : Pos) (ps : Array Value) : Prop := ps = #[] ∨ ∃ c, ps = #[rawInt pos.line, rawInt pos.col, .ref c] /\ H c = some (.ext (cdF c q))
def TabStep (P : Addr) (q : Str) (pos : Pos) (H H' : Hp) : Prop := H' = H ∨ ∃ c, H c = none /\ c ≠ P /\ H' = upd (upd H P (.tbl #[rawInt pos.line, rawInt pos.col, .ref c])) c (.ext (cdF c q))
structure LamAt (X : Cx) (c P : Addr) : Prop where
  code : X.env.code = .ref c
  hd : CodeHd X.base c P
  bl : X.base.BuiltinsAt X.mg P
section
variable {X : Cx} {pins : List (Addr × Obj)} {σ : St} {H : Hp} {s : Shared} {c P : Addr} {scope : Scope} {fr : List Str} {ix : List Nat}
theorem inv_tab (I : Inv X pins σ H s) {q : Str} {ps : Array Value} {ps' : Array Value} (hP : H P = some (.tbl ps)) {c' : Addr} {h' : Heap} {t' : Nat} (hx : ∀ b o, b ≠ P -> s.heap.get? b = some o -> h'.get? b = some o) (hc : s.heap.objs.size <= c')
    (hrec : h'.CodeRec (.ref c') q) (htb : h'.get? P = some (tabObj (ps ++ ps'))) : Inv X pins σ (upd (upd H P (.tbl (ps ++ ps'))) c' (.ext (cdF c' q))) { s with heap := h', toks := t' } := by
  have hcn : H c' = none := I.hok.fresh hc
  have hPc : P ≠ c' := ne_of_none hP hcn
  have nP : ∀ b, H b = none -> b ≠ P := λ b n z => by subst z; rw [hP] at n; cases n
  have other : ∀ b, b ≠ P -> b ≠ c' -> upd (upd H P (.tbl (ps ++ ps'))) c' (.ext (cdF c' q)) b = H b := λ b h1 h2 => by rw [upd_ne h2, upd_ne h1]
  have ne' : ∀ b u, H b = some u -> b ≠ c' := λ b u e => ne_of_none e hcn
  refine I.un (h' := h') (t' := t') ⟨λ b o e n _ _ => hx b o (nP b n) e, λ b o e n _ _ => ⟨o.slots, hx b o (nP b n) e⟩, λ b o e n _ => ?_, λ b o e _ => ?_, λ b xs e => ?_, λ b o u e => ?_, λ b qs e => ?_⟩ λ b u e => ?_
  . rw [other b (nP b n) (Nat.ne_of_lt (Nat.lt_of_lt_of_le (Heap.lt_size e) hc))]; exact n
  . by_cases z : b = P
    . subst z; exact ⟨_, htb⟩
    . exact ⟨o, hx b o z e⟩
  . rw [other b (λ z => by subst z; rw [hP] at e; cases e) (ne' b _ e)]; exact e
  . rw [other b (λ z => by subst z; rw [hP] at e; cases e) (ne' b _ e)]; exact e
  . by_cases z : b = P
    . subst z
      rw [hP] at e; cases e
      exact ⟨ps', by rw [upd_ne hPc, upd_same]⟩
    . exact ⟨#[], by rw [other b z (ne' b _ e), e]; simp⟩
  . by_cases z : b = c'
    . subst z
      rw [upd_same] at e; cases e
      obtain ⟨c0, o, vs, t, e0, r⟩ := id hrec
      cases e0
      refine ⟨hrec, ⟨o, r.1⟩, λ h1 h2 q1 k => ?_⟩
      obtain ⟨c1, o1, vs1, t1, e1, g1, r1⟩ := q1
      cases e1
      exact ⟨_, o1, vs1, t1, rfl, k _ g1, r1⟩
    . by_cases z2 : b = P
      . subst z2
        rw [upd_ne hPc, upd_same] at e; cases e
        exact htb
      . rw [other b z2 z] at e
        refine (I.hok b u e).stay (λ d v hd q => hx d v ?_ q) (λ d q => ?_) λ d xs q => ?_
        . rcases hd with rfl | hd
          . exact z2
          . intro y; subst y; rw [hP] at hd; cases hd
        . rw [other d (λ y => by subst y; rw [hP] at q; cases q) (ne' d _ q)]; exact q
        . rw [other d (λ y => by subst y; rw [hP] at q; cases q) (ne' d _ q)]; exact q
structure Made (X : Cx) (scope : Scope) (params : Arguments) (body : Expr) (P : Addr) (q : Str) (pos : Pos) (s : Shared) (H H' : Hp) (f : Addr) (cd ctv : Value) (s' : Shared) : Prop where
  fn : s'.heap.get? f = some { cls := .type "function", data := .func (kla_fn "<lambda>" q params body scope (closOf X.env.cells scope.names []) ((X.mg "__name__").getD .none) cd ctv) }
  cdc : ∃ c, cd = .ref c /\ H' c = some (.ext (cdF c q))
  step : TabStep P q pos H H'
  new : s.heap.objs.size <= f
  fre : H' f = none
theorem lam_make (S : CSc X scope fr ix) (LA : LamAt X c P) (I : Inv X pins σ H s) {A : Around} {E : Value -> Shared -> Prop} {params : Arguments} {body : Expr} {pos : Pos} {ps : Array Value} {Q : Value -> Shared -> Prop} (hdef : defaultsOf params X.env = ([], []))
    (hP : H P = some (.tbl ps)) (hg : GoodT H (X.env.qual ++ "<lambda>") pos ps)
    (h : ∀ f cd ctv H' s', Inv X pins σ H' s' -> Made X scope params body P (X.env.qual ++ "<lambda>") pos s H H' f cd ctv s' -> Q (.ref f) s') :
    wpAny (model X.prog X.w) A (eval (.Lambda params body scope pos) X.env) Q E s := by
  have hcl : closureFor scope X.env = pure (closOf X.env.cells scope.names []) := closureFor_eq (S.clos I.ok)
  have hns := I.mod.glob.keeps I.bk
  have hb := LA.bl.keeps I.bk
  have hcd := LA.hd.keeps I.bk
  have hobj : s.heap.get? P = some (tabObj ps) := I.hok P _ hP
  have hgP : mainGlobals ≠ P := λ z => by
    obtain ⟨o, es, ep, e, hd, _⟩ := hns
    rw [z, hobj] at e; cases e; cases hd
  refine kla_eval hdef ?_
  rcases hg with rfl | ⟨c', rfl, hc'⟩
  . refine kla_makeFunction hcl I.ok.glob hns LA.code hcd hobj trivial rfl hgP hb λ c' ctv h' tk hx hge hlt hrec htb => ?_
    have hx' : ∀ b o, b ≠ P -> s.heap.get? b = some o -> (h'.push (kla_obj "<lambda>" (X.env.qual ++ "<lambda>") params body scope (closOf X.env.cells scope.names []) ((X.mg "__name__").getD .none) c' ctv)).get? b = some o := λ b o n e => Heap.get?_push_of_some _ (hx b o n e)
    have J := inv_tab (t' := tk) I hP hx' hge (hrec.push _) (Heap.get?_push_of_some _ htb)
    refine h _ _ ctv _ _ J ⟨Heap.get?_push_size _ rfl, ⟨c', rfl, upd_same⟩, .inr ⟨c', I.hok.fresh hge, (ne_of_none hP (I.hok.fresh hge)).symm, ?_⟩, ?_, ?_⟩
    . simp
    . exact Nat.le_trans hge (Nat.le_of_lt hlt)
    . have hs : s.heap.objs.size <= h'.objs.size := Nat.le_trans hge (Nat.le_of_lt hlt)
      rw [upd_ne (Nat.ne_of_gt hlt), upd_ne (Nat.ne_of_gt (Nat.lt_of_lt_of_le (Heap.lt_size hobj) hs))]
      exact I.hok.fresh hs
  . have hrec : s.heap.CodeRec (.ref c') (X.env.qual ++ "<lambda>") := (I.hok c' _ hc').1
    have hf : codeAmong pos (#[rawInt pos.line, rawInt pos.col, Value.ref c'] : Array Value).toList = some (.ref c') := by simp [codeAmong, rawInt]
    refine kla_makeFunctionHit hcl I.ok.glob hns LA.code hcd hobj (by simp [TriplesOk, rawInt]) hf hb λ ctv h' tk hk hsz => ?_
    have hk' : ∀ b o, s.heap.get? b = some o -> (h'.push { cls := .type "function", data := .func (kla_fn "<lambda>" (X.env.qual ++ "<lambda>") params body scope (closOf X.env.cells scope.names []) ((X.mg "__name__").getD .none) (.ref c') ctv) }).get? b = some o := λ b o e => Heap.get?_push_of_some _ (hk b o e)
    exact h _ _ ctv _ _ (I.kept (t' := tk) hk') ⟨Heap.get?_push_size _ rfl, ⟨c', rfl, hc'⟩, .inl rfl, hsz, I.hok.fresh hsz⟩
end
end L2
namespace L2
open PySem PySem.Spec PyProof.Rows
inductive I where
  | non | bl (b : Bool) | int (i : Int) | str (x : Str) | tup (ds : List I)
inductive D where
  | im (i : I) | mu (n : Nat) | tm (ds : List D) | ro (ns : List Int)
inductive MO where
  | lst (ds : List D) | dic (kvs : List (Key × D))
abbrev Hd := List MO
abbrev Ls := List (Option D)
def RoL (K : PySem.W.Frag) (H : Hp) (a : Addr) (xs : List V) : Prop := (∃ o, H a = some (.frz o (.lst xs))) ∨
  ∃ (o : Obj) (its : Array Value) (n : Nat), K.lookup a = some o /\ o.cls = .type "list" /\ o.dict = none /\ o.data = .seq its n /\ its.size <= sizeLine /\ Vals xs its.toList
theorem RoL.sq {K : PySem.W.Frag} {H : Hp} {a : Addr} {xs : List V} (h : RoL K H a xs) : SqL K H a xs := by
  rcases h with ⟨o, h⟩ | h
  . exact .inl (.inr ⟨o, h⟩)
  . exact .inr h
theorem RoL.grow {K : PySem.W.Frag} {H H' : Hp} {a : Addr} {xs : List V} (g : Grow H H') (h : RoL K H a xs) : RoL K H' a xs := by
  rcases h with ⟨o, h⟩ | h
  . exact .inl ⟨o, g.frz _ _ _ h⟩
  . exact .inr h
def fits (n : Nat) : Prop := n <= sizeLine
def fitsL (n : Nat) : Prop := n < sizeLine
def mulOk (i j : Int) : Prop := (-(2 ^ 64) < i /\ i < 2 ^ 64) ∨ (-(2 ^ 64) < j /\ j < 2 ^ 64)
def powOk (i j : Int) : Prop := 0 <= j /\ j <= 1000000 /\ i.natAbs < 2 ^ 64
def divOk (j : Int) : Prop := 0 < j /\ j < 1073741824
def modOk (j : Int) : Prop := 0 < j
def rng1 (j : Int) : Prop := -(2 ^ 62) <= j /\ j < 2 ^ 62
def rng2 (i j : Int) : Prop := (-(2 ^ 62) <= i /\ i < 2 ^ 62) /\ -(2 ^ 62) <= j /\ j < 2 ^ 62
def rngL1 (j : Int) : Prop := j < 2 ^ 24 /\ -(2 ^ 62) <= j
def rngL2 (i j : Int) : Prop := (-(2 ^ 62) <= i /\ i < 2 ^ 62) /\ (-(2 ^ 62) <= j /\ j < 2 ^ 62) /\ (j - i).toNat <= 2 ^ 24
theorem fits_of {n : Nat} (h : n <= 1000000) : fits n := Nat.le_trans h (by rw [sizeLine_eq]; decide)
theorem fitsL_of {n : Nat} (h : n < 1000000) : fitsL n := Nat.lt_of_lt_of_le h (by rw [sizeLine_eq]; decide)
theorem mulOk_l {i j : Int} (a : -1000000000000 <= i) (b : i <= 1000000000000) : mulOk i j := .inl ⟨by omega, by omega⟩
theorem rng1_of {j : Int} (a : -1000000000000 <= j) (b : j <= 1000000000000) : rng1 j := ⟨by omega, by omega⟩
section
variable (K : PySem.W.Frag)
mutual
def RI (H : Hp) : I -> V -> Prop
  | .non, v => v = .non
  | .bl b, v => v = .bl b
  | .int i, v => v = .int i
  | .str x, v => v = .str x
  | .tup ds, v => ∃ a xs, v = .ref a /\ SqT K H a xs /\ RIs H ds xs
def RIs (H : Hp) : List I -> List V -> Prop
  | [], xs => xs = []
  | d :: ds, xs => ∃ x r, xs = x :: r /\ RI H d x /\ RIs H ds r
end
mutual
def RD (ρ : List Addr) (H : Hp) : D -> V -> Prop
  | .im i, v => RI K H i v
  | .mu n, v => ∃ a, ρ[n]? = some a /\ v = .ref a
  | .tm ds, v => ∃ a xs, v = .ref a /\ SqT K H a xs /\ RDs ρ H ds xs
  | .ro ns, v => ∃ a, v = .ref a /\ RoL K H a (ns.map V.int)
def RDs (ρ : List Addr) (H : Hp) : List D -> List V -> Prop
  | [], xs => xs = []
  | d :: ds, xs => ∃ x r, xs = x :: r /\ RD ρ H d x /\ RDs ρ H ds r
end
def RKs (ρ : List Addr) (H : Hp) : List (Key × D) -> List (Key × V) -> Prop
  | [], xs => xs = []
  | d :: ds, xs => ∃ x r, xs = x :: r /\ x.1 = d.1 /\ RD K ρ H d.2 x.2 /\ RKs ρ H ds r
def RC (ρ : List Addr) (H : Hp) : MO -> HO -> Prop
  | .lst ds, o => ∃ xs, o = .lst xs /\ RDs K ρ H ds xs
  | .dic kvs, o => ∃ kv, o = .dK kv /\ RKs K ρ H kvs kv
def tabGo : List Value -> List (Addr × Str × Pos)
  | .ref P :: .str q _ :: .int l _ :: .int c _ :: r => (P, q, ⟨l.toNat, c.toNat, 0, 0⟩) :: tabGo r
  | _ => []
def tabOf (o : Obj) : List (Addr × Str × Pos) := match o.cls, o.data with
  | .str _ _, .fields vs => tabGo vs.toList
  | _, _ => []
def tabsOf (K : PySem.W.Frag) : List (Addr × Str × Pos) := match K.getLast? with
  | some p => tabOf p.2
  | none => []
def TabsOk (K : PySem.W.Frag) (H : Hp) : Prop := ∀ x ∈ tabsOf K, ∃ ps, H x.1 = some (.tbl ps) /\ GoodT H x.2.1 x.2.2 ps
structure RH (ρ : List Addr) (H : Hp) (hd : Hd) : Prop where
  len : ρ.length = hd.length
  nd : ρ.Nodup
  tabs : TabsOk K H
  ob : ∀ (n : Nat) (o : MO) (a : Addr), hd[n]? = some o -> ρ[n]? = some a -> ∃ ho, H a = some ho /\ RC K ρ H o ho
structure RL (ρ : List Addr) (H : Hp) (ls : Ls) (σ : St) : Prop where
  len : ls.length = σ.length
  ob : ∀ (i : Nat) (d : D), ls[i]? = some (some d) -> ∃ v, σ[i]? = some (some v) /\ RD K ρ H d v
end
structure Ext (ρ : List Addr) (H : Hp) (ρ' : List Addr) (H' : Hp) : Prop where
  pre : ∃ r, ρ' = ρ ++ r /\ ∀ b ∈ r, H b = none
  keep : ∀ b o, H b = some o -> b ∉ ρ -> (∀ ps, o ≠ .tbl ps) -> H' b = some o
  tab : ∀ b ps, H b = some (.tbl ps) -> ∃ ps', H' b = some (.tbl ps')
theorem nt {o : HO} (h : match o with | .tbl _ => False | _ => True := by trivial) : ∀ ps, o ≠ .tbl ps := λ ps e => by subst e; exact h
theorem TabsOk.upd {K : PySem.W.Frag} {H : Hp} (t : TabsOk K H) {a : Addr} {ho : HO} (h1 : ∀ ps, H a ≠ some (.tbl ps)) (h2 : ∀ φ, H a ≠ some (.ext φ)) : TabsOk K (upd H a ho) := λ x hx => by
  obtain ⟨ps, e, g⟩ := t x hx
  have ne : x.1 ≠ a := λ z => h1 ps (by rw [<- z]; exact e)
  refine ⟨ps, by rw [upd_ne ne]; exact e, ?_⟩
  rcases g with g | ⟨c, g1, g2⟩
  . exact .inl g
  . have nc : c ≠ a := λ z => h2 _ (by rw [<- z]; exact g2)
    exact .inr ⟨c, g1, by rw [upd_ne nc]; exact g2⟩
section
variable {K : PySem.W.Frag} {ρ ρ' ρ1 ρ2 : List Addr} {H H' H1 H2 : Hp} {hd hd' hd1 : Hd}
mutual
theorem RI.grow (g : Grow H H') : ∀ {i : I} {v : V}, RI K H i v -> RI K H' i v
  | .non, v, h => by simpa only [RI] using h
  | .bl b, v, h => by simpa only [RI] using h
  | .int b, v, h => by simpa only [RI] using h
  | .str b, v, h => by simpa only [RI] using h
  | .tup ds, v, h => by
    simp only [RI] at h ⊢
    obtain ⟨a, xs, e, q, r⟩ := h
    exact ⟨a, xs, e, g.sq q, RIs.grow g r⟩
theorem RIs.grow (g : Grow H H') : ∀ {i : List I} {v : List V}, RIs K H i v -> RIs K H' i v
  | [], v, h => by simpa only [RIs] using h
  | d :: ds, v, h => by
    simp only [RIs] at h ⊢
    obtain ⟨x, r, e, q, z⟩ := h
    exact ⟨x, r, e, q.grow g, RIs.grow g z⟩
end
theorem RH.mut (h : RH K ρ H hd) {a : Addr} (m : a ∈ ρ) : (∃ xs, H a = some (.lst xs)) ∨ ∃ kv, H a = some (.dK kv) := by
  obtain ⟨n, e⟩ := List.mem_iff_getElem?.mp m
  have hn : n < hd.length := by rw [<- h.len]; exact (List.getElem?_eq_some_iff.mp e).1
  obtain ⟨ho, e1, e2⟩ := h.ob n hd[n] a (by simp [hn]) e
  cases q : hd[n] with
  | lst ds => rw [q] at e2; obtain ⟨xs, rfl, _⟩ := e2; exact .inl ⟨xs, e1⟩
  | dic ds => rw [q] at e2; obtain ⟨xs, rfl, _⟩ := e2; exact .inr ⟨xs, e1⟩
theorem RH.tup_out (h : RH K ρ H hd) {a : Addr} {xs : List V} (e : H a = some (.tup xs)) : a ∉ ρ := λ m => by
  rcases h.mut m with ⟨y, z⟩ | ⟨y, z⟩ <;> (rw [e] at z; cases z)
theorem RH.frz_out (h : RH K ρ H hd) {a : Addr} {o : Obj} {u : HO} (e : H a = some (.frz o u)) : a ∉ ρ := λ m => by
  rcases h.mut m with ⟨y, z⟩ | ⟨y, z⟩ <;> (rw [e] at z; cases z)
theorem Ext.grow (e : Ext ρ H ρ' H') (h : RH K ρ H hd) : Grow H H' := ⟨λ b xs q => e.keep b _ q (h.tup_out q) nt, λ b o u q => e.keep b _ q (h.frz_out q) nt⟩
theorem Ext.refl : Ext ρ H ρ H := ⟨⟨[], by simp, by simp⟩, λ _ _ h _ _ => h, λ _ ps h => ⟨ps, h⟩⟩
theorem Ext.trans (e : Ext ρ H ρ1 H1) (h0 : RH K ρ1 H1 hd1) (e2 : Ext ρ1 H1 ρ2 H2) : Ext ρ H ρ2 H2 := by
  obtain ⟨r1, rfl, f1⟩ := e.pre
  obtain ⟨r2, rfl, f2⟩ := e2.pre
  refine ⟨⟨r1 ++ r2, by simp, λ b m => ?_⟩, λ b o q n t => ?_, λ b ps q => ?_⟩
  . rcases List.mem_append.mp m with m | m
    . exact f1 b m
    . have z := f2 b m
      cases q : H b with
      | none => rfl
      | some o =>
        by_cases n : b ∈ ρ
        . rcases h0.mut (List.mem_append_left r1 n) with ⟨y, w⟩ | ⟨y, w⟩ <;> (rw [z] at w; cases w)
        . by_cases t : ∃ ps, o = .tbl ps
          . obtain ⟨ps, rfl⟩ := t
            obtain ⟨ps', this⟩ := e.tab b ps q
            rw [z] at this; cases this
          . have := e.keep b o q n λ ps y => t ⟨ps, y⟩
            rw [z] at this; cases this
  . refine e2.keep b o (e.keep b o q n t) (λ m => ?_) t
    rcases List.mem_append.mp m with m | m
    . exact n m
    . have := f1 b m; rw [q] at this; cases this
  . obtain ⟨ps', q'⟩ := e.tab b ps q
    exact e2.tab b ps' q'
mutual
theorem RD.mono (g : Grow H H') (r : List Addr) : ∀ {d : D} {v : V}, RD K ρ H d v -> RD K (ρ ++ r) H' d v
  | .im i, v, h => by simp only [RD] at h ⊢; exact h.grow g
  | .mu n, v, h => by
    simp only [RD] at h ⊢
    obtain ⟨a, e, q⟩ := h
    exact ⟨a, by rw [List.getElem?_append_left (List.getElem?_eq_some_iff.mp e).1]; exact e, q⟩
  | .tm ds, v, h => by
    simp only [RD] at h ⊢
    obtain ⟨a, xs, e, q, z⟩ := h
    exact ⟨a, xs, e, g.sq q, RDs.mono g r z⟩
  | .ro ns, v, h => by
    simp only [RD] at h ⊢
    obtain ⟨a, e, q⟩ := h
    exact ⟨a, e, q.grow g⟩
theorem RDs.mono (g : Grow H H') (r : List Addr) : ∀ {d : List D} {v : List V}, RDs K ρ H d v -> RDs K (ρ ++ r) H' d v
  | [], v, h => by simpa only [RDs] using h
  | d :: ds, v, h => by
    simp only [RDs] at h ⊢
    obtain ⟨x, r', e, q, z⟩ := h
    exact ⟨x, r', e, q.mono g r, RDs.mono g r z⟩
end
theorem RKs.mono (g : Grow H H') (r : List Addr) : ∀ {d : List (Key × D)} {v : List (Key × V)}, RKs K ρ H d v -> RKs K (ρ ++ r) H' d v
  | [], v, h => by simpa only [RKs] using h
  | d :: ds, v, h => by
    simp only [RKs] at h ⊢
    obtain ⟨x, r', e, q1, q, z⟩ := h
    exact ⟨x, r', e, q1, q.mono g r, RKs.mono g r z⟩
theorem RC.mono (g : Grow H H') (r : List Addr) {o : MO} {ho : HO} (h : RC K ρ H o ho) : RC K (ρ ++ r) H' o ho := by
  cases o with
  | lst ds => obtain ⟨xs, e, q⟩ := h; exact ⟨xs, e, q.mono g r⟩
  | dic ds => obtain ⟨xs, e, q⟩ := h; exact ⟨xs, e, q.mono g r⟩
theorem RD.ext (h : RH K ρ H hd) (e : Ext ρ H ρ' H') {d : D} {v : V} (q : RD K ρ H d v) : RD K ρ' H' d v := by
  obtain ⟨r, rfl, _⟩ := e.pre
  exact q.mono (e.grow h) r
theorem RDs.ext (h : RH K ρ H hd) (e : Ext ρ H ρ' H') {d : List D} {v : List V} (q : RDs K ρ H d v) : RDs K ρ' H' d v := by
  obtain ⟨r, rfl, _⟩ := e.pre
  exact q.mono (e.grow h) r
theorem RL.ext (h : RH K ρ H hd) (e : Ext ρ H ρ' H') {ls : Ls} {σ : St} (q : RL K ρ H ls σ) : RL K ρ' H' ls σ :=
  ⟨q.len, λ i d z => let ⟨v, a, b⟩ := q.ob i d z; ⟨v, a, b.ext h e⟩⟩
theorem RDs.len : ∀ {ds : List D} {xs : List V}, RDs K ρ H ds xs -> xs.length = ds.length
  | [], xs, h => by simp only [RDs] at h; rw [h]; rfl
  | d :: ds, xs, h => by
    simp only [RDs] at h
    obtain ⟨x, r, rfl, _, z⟩ := h
    simp [RDs.len z]
theorem RDs.get : ∀ {ds : List D} {xs : List V} {i : Nat} {d : D}, RDs K ρ H ds xs -> ds[i]? = some d -> ∃ x, xs[i]? = some x /\ RD K ρ H d x
  | [], xs, i, d, h, e => by simp at e
  | d :: ds, xs, 0, e, h, q => by
    simp only [RDs] at h
    obtain ⟨x, r, rfl, z, _⟩ := h
    simp at q; subst q
    exact ⟨x, rfl, z⟩
  | d :: ds, xs, i + 1, e, h, q => by
    simp only [RDs] at h
    obtain ⟨x, r, rfl, _, z⟩ := h
    obtain ⟨y, a, b⟩ := RDs.get (i := i) z (by simpa using q)
    exact ⟨y, by simpa using a, b⟩
theorem RDs.nil : RDs K ρ H [] [] := by simp [RDs]
theorem RDs.cons {d : D} {v : V} {ds : List D} {vs : List V} (h : RD K ρ H d v) (t : RDs K ρ H ds vs) : RDs K ρ H (d :: ds) (v :: vs) := by
  simp only [RDs]; exact ⟨v, vs, rfl, h, t⟩
theorem RDs.app : ∀ {ds es : List D} {xs ys : List V}, RDs K ρ H ds xs -> RDs K ρ H es ys -> RDs K ρ H (ds ++ es) (xs ++ ys)
  | [], es, xs, ys, h, t => by simp only [RDs] at h; subst h; simpa using t
  | d :: ds, es, xs, ys, h, t => by
    simp only [RDs] at h
    obtain ⟨x, r, rfl, z, q⟩ := h
    simp only [List.cons_append]
    exact .cons z (q.app t)
theorem RDs.set : ∀ {ds : List D} {xs : List V} {d : D} {v : V} (i : Nat), RDs K ρ H ds xs -> RD K ρ H d v -> RDs K ρ H (ds.set i d) (xs.set i v)
  | [], xs, d, v, i, h, t => by simp only [RDs] at h; subst h; simp [RDs]
  | d :: ds, xs, e, v, 0, h, t => by
    simp only [RDs] at h
    obtain ⟨x, r, rfl, z, q⟩ := h
    simpa using RDs.cons t q
  | d :: ds, xs, e, v, i + 1, h, t => by
    simp only [RDs] at h
    obtain ⟨x, r, rfl, z, q⟩ := h
    simpa using RDs.cons z (q.set i t)
theorem RDs.drop : ∀ {ds : List D} {xs : List V} (n : Nat), RDs K ρ H ds xs -> RDs K ρ H (ds.drop n) (xs.drop n)
  | ds, xs, 0, h => by simpa using h
  | [], xs, n + 1, h => by simp only [RDs] at h; subst h; simp [RDs]
  | d :: ds, xs, n + 1, h => by
    simp only [RDs] at h
    obtain ⟨x, r, rfl, z, q⟩ := h
    simpa using q.drop n
theorem RDs.take : ∀ {ds : List D} {xs : List V} (n : Nat), RDs K ρ H ds xs -> RDs K ρ H (ds.take n) (xs.take n)
  | ds, xs, 0, h => by simp [RDs]
  | [], xs, n + 1, h => by simp only [RDs] at h; subst h; simp [RDs]
  | d :: ds, xs, n + 1, h => by
    simp only [RDs] at h
    obtain ⟨x, r, rfl, z, q⟩ := h
    simpa using RDs.cons z (q.take n)
theorem RIs.ds : ∀ {is : List I} {xs : List V}, RIs K H is xs -> RDs K ρ H (is.map D.im) xs
  | [], xs, h => by simpa only [RIs, RDs, List.map_nil] using h
  | i :: is, xs, h => by
    simp only [RIs] at h
    obtain ⟨x, r, rfl, z, q⟩ := h
    exact .cons (by simpa only [RD] using z) q.ds
theorem RDs.is : ∀ {is : List I} {xs : List V}, RDs K ρ H (is.map D.im) xs -> RIs K H is xs
  | [], xs, h => by simpa only [RIs, RDs, List.map_nil] using h
  | i :: is, xs, h => by
    simp only [List.map_cons, RDs] at h
    obtain ⟨x, r, rfl, z, q⟩ := h
    simp only [RIs]
    exact ⟨x, r, rfl, by simpa only [RD] using z, q.is⟩
theorem RH.new (h : RH K ρ H hd) {a : Addr} (ha : H a = none) {o : MO} {ho : HO} (c : RC K ρ H o ho) : RH K (ρ ++ [a]) (upd H a ho) (hd ++ [o]) /\ Ext ρ H (ρ ++ [a]) (upd H a ho) := by
  have out : a ∉ ρ := λ m => by rcases h.mut m with ⟨y, z⟩ | ⟨y, z⟩ <;> (rw [ha] at z; cases z)
  have ex : Ext ρ H (ρ ++ [a]) (upd H a ho) := ⟨⟨[a], rfl, λ b m => by simp at m; subst m; exact ha⟩, λ b o q n _ => by rw [upd_ne (ne_of_none q ha)]; exact q, λ b ps q => ⟨ps, by rw [upd_ne (ne_of_none q ha)]; exact q⟩⟩
  refine ⟨⟨by simp [h.len], ?_, h.tabs.upd (by simp [ha]) (by simp [ha]), λ n o' b e1 e2 => ?_⟩, ex⟩
  . rw [List.nodup_append]
    refine ⟨h.nd, by simp, λ x hx y hy z => ?_⟩
    simp at hy; subst hy; subst z; exact out hx
  . have gr := ex.grow h
    by_cases hn : n < ρ.length
    . rw [List.getElem?_append_left hn] at e2
      rw [List.getElem?_append_left (by rw [<- h.len]; exact hn)] at e1
      obtain ⟨ho', q1, q2⟩ := h.ob n o' b e1 e2
      exact ⟨ho', by rw [upd_ne (ne_of_none q1 ha)]; exact q1, q2.mono gr [a]⟩
    . have hn' : n = ρ.length := by
        have := (List.getElem?_eq_some_iff.mp e2).1
        simp at this; omega
      subst hn'
      simp at e2
      rw [h.len] at e1
      simp at e1
      subst e1; subst e2
      exact ⟨ho, upd_same, c.mono gr [a]⟩
theorem RH.put (h : RH K ρ H hd) {n : Nat} {a : Addr} (hn : ρ[n]? = some a) {o : MO} {ho : HO} (c : RC K ρ H o ho) : RH K ρ (upd H a ho) (hd.set n o) /\ Ext ρ H ρ (upd H a ho) := by
  have ha := h.mut (List.mem_of_getElem? hn)
  have n1 : ∀ ps, H a ≠ some (.tbl ps) := λ ps e => by rcases ha with ⟨y, z⟩ | ⟨y, z⟩ <;> (rw [e] at z; cases z)
  have n2 : ∀ φ, H a ≠ some (.ext φ) := λ ps e => by rcases ha with ⟨y, z⟩ | ⟨y, z⟩ <;> (rw [e] at z; cases z)
  have ex : Ext ρ H ρ (upd H a ho) := ⟨⟨[], by simp, by simp⟩, λ b o q m _ => by
    have : b ≠ a := λ z => m (by rw [z]; exact List.mem_of_getElem? hn)
    rw [upd_ne this]; exact q, λ b ps q => ⟨ps, (upd_ne (show b ≠ a from λ z => n1 ps (by rw [<- z]; exact q))).trans q⟩⟩
  have gr := ex.grow h
  refine ⟨⟨by simp [h.len], h.nd, h.tabs.upd n1 n2, λ m o' b e1 e2 => ?_⟩, ex⟩
  have hm : m < hd.length := by rw [<- h.len]; exact (List.getElem?_eq_some_iff.mp e2).1
  by_cases hmn : m = n
  . subst hmn
    rw [hn] at e2; cases e2
    rw [List.getElem?_set_self hm] at e1
    cases e1
    exact ⟨ho, upd_same, by simpa using c.mono gr []⟩
  . rw [List.getElem?_set_ne (λ z => hmn z.symm)] at e1
    obtain ⟨ho', q1, q2⟩ := h.ob m o' b e1 e2
    have : b ≠ a := λ z => by
      subst z
      have l1 := (List.getElem?_eq_some_iff.mp e2).1
      have l2 := (List.getElem?_eq_some_iff.mp hn).1
      exact hmn ((List.getElem?_inj l1 h.nd).mp (e2.trans hn.symm))
    exact ⟨ho', by rw [upd_ne this]; exact q1, by simpa using q2.mono gr []⟩
theorem RH.lst (h : RH K ρ H hd) {n : Nat} {a : Addr} {ds : List D} (hn : ρ[n]? = some a) (e : hd[n]? = some (.lst ds)) : ∃ xs, H a = some (.lst xs) /\ RDs K ρ H ds xs := by
  obtain ⟨ho, q, xs, rfl, r⟩ := h.ob n _ a e hn
  exact ⟨xs, q, r⟩
theorem RH.dic (h : RH K ρ H hd) {n : Nat} {a : Addr} {ds : List (Key × D)} (hn : ρ[n]? = some a) (e : hd[n]? = some (.dic ds)) : ∃ xs, H a = some (.dK xs) /\ RKs K ρ H ds xs := by
  obtain ⟨ho, q, xs, rfl, r⟩ := h.ob n _ a e hn
  exact ⟨xs, q, r⟩
theorem RH.hid (h : RH K ρ H hd) {a : Addr} (ha : H a = none) {ho : HO} : RH K ρ (upd H a ho) hd /\ Ext ρ H ρ (upd H a ho) := by
  have out : a ∉ ρ := λ m => by rcases h.mut m with ⟨y, z⟩ | ⟨y, z⟩ <;> (rw [ha] at z; cases z)
  have ex : Ext ρ H ρ (upd H a ho) := ⟨⟨[], by simp, by simp⟩, λ b o q n _ => by rw [upd_ne (ne_of_none q ha)]; exact q, λ b ps q => ⟨ps, by rw [upd_ne (ne_of_none q ha)]; exact q⟩⟩
  have gr := ex.grow h
  refine ⟨⟨h.len, h.nd, h.tabs.upd (by simp [ha]) (by simp [ha]), λ m o' b e1 e2 => ?_⟩, ex⟩
  obtain ⟨ho', q1, q2⟩ := h.ob m o' b e1 e2
  exact ⟨ho', by rw [upd_ne (ne_of_none q1 ha)]; exact q1, by simpa using q2.mono gr []⟩
theorem RH.hput (h : RH K ρ H hd) {a : Addr} (out : a ∉ ρ) {xs : List V} {ho : HO} (hl : H a = some (.lst xs)) : RH K ρ (upd H a ho) hd := by
  have gr : Grow H (upd H a ho) := Grow.refl.put (.lst hl)
  refine ⟨h.len, h.nd, h.tabs.upd (by simp [hl]) (by simp [hl]), λ m o' b e1 e2 => ?_⟩
  obtain ⟨ho', q1, q2⟩ := h.ob m o' b e1 e2
  have : b ≠ a := λ z => out (by rw [<- z]; exact List.mem_of_getElem? e2)
  exact ⟨ho', by rw [upd_ne this]; exact q1, by simpa using q2.mono gr []⟩
end
end L2
namespace L2
open PySem PySem.Spec PyProof.Rows
abbrev ME := Ls -> Hd -> Option (D × Hd)
abbrev MT := Ls -> Hd -> Option (Bool × Hd)
abbrev MA := Ls -> Hd -> Option (List D × Hd)
inductive Fl where
  | nx (ls : Ls) | rt (d : D) | bk (ls : Ls) | ct (ls : Ls)
abbrev MS := Ls -> Hd -> Option (Fl × Hd)
section
variable (K : PySem.W.Frag)
def RE (t : TE) (m : ME) : Prop := ∀ (ρ : List Addr) (σ : St) (H : Hp) (hd : Hd) (ls : Ls) (Q : VK) (d : D) (hd' : Hd), RH K ρ H hd -> RL K ρ H ls σ -> m ls hd = some (d, hd') ->
  (∀ ρ' H' v, Ext ρ H ρ' H' -> RH K ρ' H' hd' -> RD K ρ' H' d v -> Q v H') -> t σ H Q
def RT (t : TT) (m : MT) : Prop := ∀ (ρ : List Addr) (σ : St) (H : Hp) (hd : Hd) (ls : Ls) (Q : Bool -> Hp -> Prop) (d : Bool) (hd' : Hd), RH K ρ H hd -> RL K ρ H ls σ -> m ls hd = some (d, hd') ->
  (∀ ρ' H', Ext ρ H ρ' H' -> RH K ρ' H' hd' -> Q d H') -> t σ H Q
def RA (t : TA) (m : MA) : Prop := ∀ (ρ : List Addr) (σ : St) (H : Hp) (hd : Hd) (ls : Ls) (Q : List V -> Hp -> Prop) (d : List D) (hd' : Hd), RH K ρ H hd -> RL K ρ H ls σ -> m ls hd = some (d, hd') ->
  (∀ ρ' H' v, Ext ρ H ρ' H' -> RH K ρ' H' hd' -> RDs K ρ' H' d v -> Q v H') -> t σ H Q
def RN (t : TE) (m : MA) : Prop := ∀ (ρ : List Addr) (σ : St) (H : Hp) (hd : Hd) (ls : Ls) (Q : VK) (d : List D) (hd' : Hd), RH K ρ H hd -> RL K ρ H ls σ -> m ls hd = some (d, hd') ->
  (∀ ρ' H' a xs, Ext ρ H ρ' H' -> RH K ρ' H' hd' -> H a = none -> a ∉ ρ' -> H' a = some (.lst xs) -> RDs K ρ' H' d xs -> Q (.ref a) H') -> t σ H Q
def Lands (E : Ends) (ρ : List Addr) (H : Hp) : Fl -> Prop
  | .nx ls => ∀ σ, RL K ρ H ls σ -> E.nx σ H
  | .bk ls => ∀ σ, RL K ρ H ls σ -> E.bk σ H
  | .ct ls => ∀ σ, RL K ρ H ls σ -> E.ct σ H
  | .rt d => ∀ v, RD K ρ H d v -> E.rt v H
def RS (t : TS) (m : MS) : Prop := ∀ (ρ : List Addr) (σ : St) (H : Hp) (hd : Hd) (ls : Ls) (E : Ends) (f : Fl) (hd' : Hd), RH K ρ H hd -> RL K ρ H ls σ -> m ls hd = some (f, hd') ->
  (∀ ρ' H', Ext ρ H ρ' H' -> RH K ρ' H' hd' -> Lands K E ρ' H' f) -> t E σ H
def RB (r : R2) (f : D -> D -> Hd -> Option (D × Hd)) : Prop := ∀ (ρ : List Addr) (H : Hp) (hd : Hd) (d e : D) (v u : V) (Q : VK) (z : D) (hd' : Hd), RH K ρ H hd -> RD K ρ H d v -> RD K ρ H e u -> f d e hd = some (z, hd') ->
  (∀ ρ' H' w, Ext ρ H ρ' H' -> RH K ρ' H' hd' -> RD K ρ' H' z w -> Q w H') -> r v u H Q
def RF (r : List V -> Hp -> VK -> Prop) (f : List D -> Hd -> Option (D × Hd)) : Prop := ∀ (ρ : List Addr) (H : Hp) (hd : Hd) (ds : List D) (vs : List V) (Q : VK) (z : D) (hd' : Hd), RH K ρ H hd -> RDs K ρ H ds vs -> f ds hd = some (z, hd') ->
  (∀ ρ' H' w, Ext ρ H ρ' H' -> RH K ρ' H' hd' -> RD K ρ' H' z w -> Q w H') -> r vs H Q
def RG (tp : Bool) (r : List V -> Hp -> VK -> Prop) (g : List D -> Option D) : Prop := ∀ (ρ : List Addr) (H : Hp) (hd : Hd) (a : Addr) (xs : List V) (ds : List D) (Q : VK) (z : D), RH K ρ H hd -> (SqL K H a xs ∨ (tp = true /\ SqT K H a xs)) -> RDs K ρ H ds xs -> g ds = some z ->
  (∀ H' w, Ext ρ H ρ H' -> RH K ρ H' hd -> RD K ρ H' z w -> Q w H') -> r [.ref a] H Q
end
structure QE (K : PySem.W.Frag) (X : Cx) (e : Expr) (t : TE) (m : ME) : Prop where
  p : PE X e t
  r : RE K t m
structure QT (K : PySem.W.Frag) (X : Cx) (e : Expr) (t : TT) (m : MT) : Prop where
  p : PT X e t
  r : RT K t m
structure QW (K : PySem.W.Frag) (X : Cx) (e : Expr) (t : TT) (m : MT) : Prop where
  p : PW X e t
  r : RT K t m
structure QA (K : PySem.W.Frag) (X : Cx) (e : List Expr) (t : TA) (m : MA) : Prop where
  p : PA X e t
  r : RA K t m
structure QN (K : PySem.W.Frag) (X : Cx) (e : Expr) (t : TE) (m : MA) : Prop where
  p : PE X e t
  r : RN K t m
structure QS (K : PySem.W.Frag) (X : Cx) (e : Stmt) (t : TS) (m : MS) : Prop where
  p : PS X e t
  r : RS K t m
structure QSs (K : PySem.W.Frag) (X : Cx) (e : List Stmt) (t : TS) (m : MS) : Prop where
  p : PSs X e t
  r : RS K t m
def tupView : D -> Option (List D)
  | .im (.tup is) => some (is.map .im)
  | .tm ds => some ds
  | _ => none
def lstView (hd : Hd) : D -> Option (List D)
  | .mu n => match hd[n]? with
    | some (.lst ds) => some ds
    | _ => none
  | .ro ns => some (ns.map λ n => .im (.int n))
  | _ => none
def seqView (hd : Hd) (d : D) : Option (List D) := match tupView d with
  | some ds => some ds
  | none => lstView hd d
def allIm : List D -> Option (List I)
  | [] => some []
  | .im i :: r => (allIm r).map (i :: ·)
  | _ :: _ => none
def mkTup (ds : List D) : D := match allIm ds with
  | some is => .im (.tup is)
  | none => .tm ds
def intsD : List D -> Option (List Int)
  | [] => some []
  | .im (.int i) :: r => (intsD r).map (i :: ·)
  | _ :: _ => none
def blsD : List D -> Option (List Bool)
  | [] => some []
  | .im (.bl i) :: r => (blsD r).map (i :: ·)
  | _ :: _ => none
section
variable {K : PySem.W.Frag} {ρ ρ' : List Addr} {H H' : Hp} {hd hd' : Hd}
theorem allIm_eq : ∀ {ds : List D} {is : List I}, allIm ds = some is -> ds = is.map .im
  | [], is, h => by simp [allIm] at h; subst h; rfl
  | .im i :: r, is, h => by
    simp only [allIm, Option.map_eq_some_iff] at h
    obtain ⟨js, e, rfl⟩ := h
    simp [allIm_eq e]
  | .mu _ :: _, is, h => by simp [allIm] at h
  | .tm _ :: _, is, h => by simp [allIm] at h
  | .ro _ :: _, is, h => by simp [allIm] at h
theorem intsD_eq : ∀ {ds : List D} {is : List Int}, intsD ds = some is -> ds = is.map λ i => .im (.int i)
  | [], is, h => by simp [intsD] at h; subst h; rfl
  | .im (.int i) :: r, is, h => by
    simp only [intsD, Option.map_eq_some_iff] at h
    obtain ⟨js, e, rfl⟩ := h
    simp [intsD_eq e]
  | .im (.bl _) :: _, is, h => by simp [intsD] at h
  | .im (.str _) :: _, is, h => by simp [intsD] at h
  | .im .non :: _, is, h => by simp [intsD] at h
  | .im (.tup _) :: _, is, h => by simp [intsD] at h
  | .mu _ :: _, is, h => by simp [intsD] at h
  | .tm _ :: _, is, h => by simp [intsD] at h
  | .ro _ :: _, is, h => by simp [intsD] at h
theorem blsD_eq : ∀ {ds : List D} {is : List Bool}, blsD ds = some is -> ds = is.map λ i => .im (.bl i)
  | [], is, h => by simp [blsD] at h; subst h; rfl
  | .im (.bl i) :: r, is, h => by
    simp only [blsD, Option.map_eq_some_iff] at h
    obtain ⟨js, e, rfl⟩ := h
    simp [blsD_eq e]
  | .im (.int _) :: _, is, h => by simp [blsD] at h
  | .im (.str _) :: _, is, h => by simp [blsD] at h
  | .im .non :: _, is, h => by simp [blsD] at h
  | .im (.tup _) :: _, is, h => by simp [blsD] at h
  | .mu _ :: _, is, h => by simp [blsD] at h
  | .tm _ :: _, is, h => by simp [blsD] at h
  | .ro _ :: _, is, h => by simp [blsD] at h
@[simp] theorem allIm_map (is : List I) : allIm (is.map .im) = some is := by induction is <;> simp_all [allIm]
@[simp] theorem intsD_map (is : List Int) : intsD (is.map λ i => .im (.int i)) = some is := by induction is <;> simp_all [intsD]
@[simp] theorem blsD_map (is : List Bool) : blsD (is.map λ i => .im (.bl i)) = some is := by induction is <;> simp_all [blsD]
theorem rd_ints : ∀ {ns : List Int} {xs : List V}, RDs K ρ H (ns.map λ i => .im (.int i)) xs -> xs = ns.map V.int
  | [], xs, h => by simpa [RDs] using h
  | n :: ns, xs, h => by
    simp only [List.map_cons, RDs, RD, RI] at h
    obtain ⟨x, r, rfl, rfl, z⟩ := h
    rw [rd_ints z]; rfl
theorem ints_rd : ∀ {ns : List Int}, RDs K ρ H (ns.map λ i => .im (.int i)) (ns.map V.int)
  | [] => by simp [RDs]
  | n :: ns => by simp only [List.map_cons]; exact .cons (by simp [RD, RI]) ints_rd
theorem rd_bls : ∀ {ns : List Bool} {xs : List V}, RDs K ρ H (ns.map λ i => .im (.bl i)) xs -> xs = ns.map V.bl
  | [], xs, h => by simpa [RDs] using h
  | n :: ns, xs, h => by
    simp only [List.map_cons, RDs, RD, RI] at h
    obtain ⟨x, r, rfl, rfl, z⟩ := h
    rw [rd_bls z]; rfl
theorem RD.tup {d : D} {v : V} {ds : List D} (h : RD K ρ H d v) (e : tupView d = some ds) : ∃ a xs, v = .ref a /\ SqT K H a xs /\ RDs K ρ H ds xs := by
  cases d with
  | im i =>
    cases i with
    | tup is =>
      simp only [tupView, Option.some.injEq] at e
      subst e
      simp only [RD, RI] at h
      obtain ⟨a, xs, rfl, q, r⟩ := h
      exact ⟨a, xs, rfl, q, r.ds⟩
    | _ => simp [tupView] at e
  | tm es =>
    simp only [tupView, Option.some.injEq] at e
    subst e
    simpa only [RD] using h
  | _ => simp [tupView] at e
theorem RD.lst {d : D} {v : V} {ds : List D} (hR : RH K ρ H hd) (h : RD K ρ H d v) (e : lstView hd d = some ds) : ∃ a xs, v = .ref a /\ SqL K H a xs /\ RDs K ρ H ds xs := by
  cases d with
  | mu n =>
    simp only [lstView] at e
    simp only [RD] at h
    obtain ⟨a, hn, rfl⟩ := h
    split at e
    . next q =>
      cases e
      obtain ⟨xs, e1, e2⟩ := hR.lst hn q
      exact ⟨a, xs, rfl, SqL.of e1, e2⟩
    . cases e
  | ro ns =>
    simp only [lstView, Option.some.injEq] at e
    subst e
    simp only [RD] at h
    obtain ⟨a, rfl, q⟩ := h
    exact ⟨a, _, rfl, q.sq, ints_rd⟩
  | _ => simp [lstView] at e
theorem RD.seq {d : D} {v : V} {ds : List D} (hR : RH K ρ H hd) (h : RD K ρ H d v) (e : seqView hd d = some ds) : ∃ a xs, v = .ref a /\ (SqL K H a xs ∨ SqT K H a xs) /\ RDs K ρ H ds xs := by
  unfold seqView at e
  split at e
  . next q =>
    cases e
    obtain ⟨a, xs, e1, e2, e3⟩ := h.tup q
    exact ⟨a, xs, e1, .inr e2, e3⟩
  . obtain ⟨a, xs, e1, e2, e3⟩ := h.lst hR e
    exact ⟨a, xs, e1, .inl e2, e3⟩
theorem rd_mkTup {ds : List D} {a : Addr} {xs : List V} (q : SqT K H a xs) (r : RDs K ρ H ds xs) : RD K ρ H (mkTup ds) (.ref a) := by
  unfold mkTup
  split
  . next e =>
    rw [allIm_eq e] at r
    simp only [RD, RI]
    exact ⟨a, xs, rfl, q, r.is⟩
  . simp only [RD]
    exact ⟨a, xs, rfl, q, r⟩
def mVar (i : Nat) : ME := λ ls hd => match ls[i]? with
  | some (some d) => some (d, hd)
  | _ => none
theorem re_var {i : Nat} : RE K (tVar i) (mVar i) := by
  intro ρ σ H hd ls Q d hd' hR hL hm hQ
  unfold mVar at hm
  split at hm
  . next e =>
    cases hm
    obtain ⟨v, e1, e2⟩ := hL.ob i _ e
    exact ⟨v, e1, hQ ρ H v .refl hR e2⟩
  . cases hm
def mC (i : I) : ME := λ _ hd => some (.im i, hd)
theorem re_c {v : V} {i : I} (h : ∀ H, RI K H i v) : RE K (tC v) (mC i) := by
  intro ρ σ H hd ls Q d hd' hR hL hm hQ
  cases hm
  exact hQ ρ H v .refl hR (by simpa only [RD] using h H)
def mOp (f : D -> D -> Hd -> Option (D × Hd)) (ma mb : ME) : ME := λ ls hd => (ma ls hd).bind λ p => (mb ls p.2).bind λ q => f p.1 q.1 q.2
theorem re_op {r : R2} {f : D -> D -> Hd -> Option (D × Hd)} {ta tb : TE} {ma mb : ME} (hr : RB K r f) (ha : RE K ta ma) (hb : RE K tb mb) : RE K (tOp r ta tb) (mOp f ma mb) := by
  intro ρ σ H hd ls Q d hd' hR hL hm hQ
  obtain ⟨⟨d1, h1⟩, e1, hm⟩ := Option.bind_eq_some_iff.mp hm
  obtain ⟨⟨d2, h2⟩, e2, hm⟩ := Option.bind_eq_some_iff.mp hm
  refine ha ρ σ H hd ls _ d1 h1 hR hL e1 λ ρ1 H1 v1 x1 R1 r1 => ?_
  refine hb ρ1 σ H1 h1 ls _ d2 h2 R1 (hL.ext hR x1) e2 λ ρ2 H2 v2 x2 R2 r2 => ?_
  exact hr ρ2 H2 h2 d1 d2 v1 v2 Q d hd' R2 (r1.ext R1 x2) r2 hm λ ρ' H' w x3 R3 r3 => hQ ρ' H' w ((x1.trans R1 x2).trans R2 x3) R3 r3
def mAnd (ta tb : MT) : MT := λ ls hd => (ta ls hd).bind λ p => if p.1 = true then tb ls p.2 else some (false, p.2)
def mOr (ta tb : MT) : MT := λ ls hd => (ta ls hd).bind λ p => if p.1 = true then some (true, p.2) else tb ls p.2
def mNot (ta : MT) : MT := λ ls hd => (ta ls hd).bind λ p => some (!p.1, p.2)
theorem rt_and {ta tb : TT} {ma mb : MT} (ha : RT K ta ma) (hb : RT K tb mb) : RT K (tAnd ta tb) (mAnd ma mb) := by
  intro ρ σ H hd ls Q d hd' hR hL hm hQ
  obtain ⟨⟨d1, h1⟩, e1, hm⟩ := Option.bind_eq_some_iff.mp hm
  refine ha ρ σ H hd ls _ d1 h1 hR hL e1 λ ρ1 H1 x1 R1 => ?_
  cases d1 with
  | true =>
    rw [if_pos rfl] at hm ⊢
    exact hb ρ1 σ H1 h1 ls Q d hd' R1 (hL.ext hR x1) hm λ ρ2 H2 x2 R2 => hQ ρ2 H2 (x1.trans R1 x2) R2
  | false =>
    rw [if_neg Bool.false_ne_true] at hm ⊢
    cases hm
    exact hQ ρ1 H1 x1 R1
theorem rt_or {ta tb : TT} {ma mb : MT} (ha : RT K ta ma) (hb : RT K tb mb) : RT K (tOr ta tb) (mOr ma mb) := by
  intro ρ σ H hd ls Q d hd' hR hL hm hQ
  obtain ⟨⟨d1, h1⟩, e1, hm⟩ := Option.bind_eq_some_iff.mp hm
  refine ha ρ σ H hd ls _ d1 h1 hR hL e1 λ ρ1 H1 x1 R1 => ?_
  cases d1 with
  | true =>
    rw [if_pos rfl] at hm ⊢
    cases hm
    exact hQ ρ1 H1 x1 R1
  | false =>
    rw [if_neg Bool.false_ne_true] at hm ⊢
    exact hb ρ1 σ H1 h1 ls Q d hd' R1 (hL.ext hR x1) hm λ ρ2 H2 x2 R2 => hQ ρ2 H2 (x1.trans R1 x2) R2
theorem rt_not {ta : TT} {ma : MT} (ha : RT K ta ma) : RT K (tNot ta) (mNot ma) := by
  intro ρ σ H hd ls Q d hd' hR hL hm hQ
  obtain ⟨⟨d1, h1⟩, e1, hm⟩ := Option.bind_eq_some_iff.mp hm
  cases hm
  exact ha ρ σ H hd ls _ d1 h1 hR hL e1 λ ρ1 H1 x1 R1 => hQ ρ1 H1 x1 R1
open Classical in
noncomputable def truD (hd : Hd) : D -> Option Bool
  | .im .non => some false
  | .im (.bl b) => some b
  | .im (.int i) => some (i != 0)
  | .im (.str x) => if fits x.length then some ((x.length : Int) != 0) else none
  | .im (.tup is) => some (!is.isEmpty)
  | .tm is => some (!is.isEmpty)
  | .ro ns => some (!ns.isEmpty)
  | .mu n => match hd[n]? with
    | some (.lst ds) => some (!ds.isEmpty)
    | some (.dic ds) => some (!ds.isEmpty)
    | none => none
theorem isEmpty_len {α β : Type} {xs : List α} {ys : List β} (h : xs.length = ys.length) : xs.isEmpty = ys.isEmpty := by
  cases xs <;> cases ys <;> simp_all
theorem RKs.len : ∀ {ds : List (Key × D)} {xs : List (Key × V)}, RKs K ρ H ds xs -> xs.length = ds.length
  | [], xs, h => by simp only [RKs] at h; rw [h]; rfl
  | d :: ds, xs, h => by
    simp only [RKs] at h
    obtain ⟨x, r, rfl, _, _, z⟩ := h
    simp [RKs.len z]
theorem truD_ok {d : D} {v : V} {b : Bool} (hR : RH K ρ H hd) (h : RD K ρ H d v) (e : truD hd d = some b) : TruV K v H b := by
  cases d with
  | im i =>
    cases i with
    | non => simp only [RD, RI] at h; subst h; simp only [truD, Option.some.injEq] at e; subst e; exact rfl
    | bl c => simp only [RD, RI] at h; subst h; simp only [truD, Option.some.injEq] at e; subst e; exact rfl
    | int c => simp only [RD, RI] at h; subst h; simp only [truD, Option.some.injEq] at e; subst e; exact rfl
    | str c =>
      simp only [RD, RI] at h; subst h; simp only [truD] at e
      split at e
      . next z => cases e; exact ⟨z, rfl⟩
      . cases e
    | tup is =>
      obtain ⟨a, xs, rfl, q, r⟩ := h.tup (ds := is.map .im) rfl
      simp only [truD, Option.some.injEq] at e; subst e
      exact .inr (.inl ⟨xs, q, by rw [isEmpty_len (show xs.length = is.length by simpa using r.len)]⟩)
  | tm ds =>
    obtain ⟨a, xs, rfl, q, r⟩ := h.tup (ds := ds) rfl
    simp only [truD, Option.some.injEq] at e; subst e
    exact .inr (.inl ⟨xs, q, by rw [isEmpty_len r.len]⟩)
  | ro ns =>
    obtain ⟨a, xs, rfl, q, r⟩ := h.lst hR (hd := hd) (ds := ns.map λ n => .im (.int n)) rfl
    simp only [truD, Option.some.injEq] at e; subst e
    exact .inl ⟨xs, q, by rw [isEmpty_len (show xs.length = ns.length by simpa using r.len)]⟩
  | mu n =>
    simp only [RD] at h
    obtain ⟨a, hn, rfl⟩ := h
    simp only [truD] at e
    split at e
    . next q =>
      cases e
      obtain ⟨xs, e1, e2⟩ := hR.lst hn q
      exact .inl ⟨xs, SqL.of e1, by rw [isEmpty_len e2.len]⟩
    . next q =>
      cases e
      obtain ⟨xs, e1, e2⟩ := hR.dic hn q
      exact .inr (.inr ⟨xs, e1, by rw [isEmpty_len e2.len]⟩)
    . cases e
noncomputable def mTru (ma : ME) : MT := λ ls hd => (ma ls hd).bind λ p => (truD p.2 p.1).map (·, p.2)
theorem rt_truth {ta : TE} {ma : ME} (ha : RE K ta ma) : RT K (λ σ H Q => ta σ H λ x H' => ∃ k, TruV K x H' k /\ Q k H') (mTru ma) := by
  intro ρ σ H hd ls Q d hd' hR hL hm hQ
  obtain ⟨⟨d1, h1⟩, e1, hm⟩ := Option.bind_eq_some_iff.mp hm
  obtain ⟨b, e2, e3⟩ := Option.map_eq_some_iff.mp hm
  cases e3
  exact ha ρ σ H hd ls _ d1 h1 hR hL e1 λ ρ1 H1 v x1 R1 r1 => ⟨_, truD_ok R1 r1 e2, hQ ρ1 H1 x1 R1⟩
def mTest (ma : ME) : MT := λ ls hd => (ma ls hd).bind λ p => match p.1 with
  | .im (.bl b) => some (b, p.2)
  | _ => none
theorem rt_test {ta : TE} {ma : ME} (ha : RE K ta ma) : RT K (tTest ta) (mTest ma) := by
  intro ρ σ H hd ls Q d hd' hR hL hm hQ
  obtain ⟨⟨d1, h1⟩, e1, hm⟩ := Option.bind_eq_some_iff.mp hm
  dsimp only at hm
  split at hm
  . cases hm
    exact ha ρ σ H hd ls _ _ _ hR hL e1 λ ρ1 H1 v x1 R1 r1 => ⟨_, by simpa only [RD, RI] using r1, hQ ρ1 H1 x1 R1⟩
  . cases hm
theorem rt_B {ta : TE} {ma : ME} (ha : RE K ta ma) : RT K (tB ta) (mTest ma) := rt_test ha
def mIf (c : MT) (ma mb : ME) : ME := λ ls hd => (c ls hd).bind λ p => if p.1 = true then ma ls p.2 else mb ls p.2
theorem re_if {tc : TT} {c : MT} {ta tb : TE} {ma mb : ME} (hc : RT K tc c) (ha : RE K ta ma) (hb : RE K tb mb) : RE K (tIf tc ta tb) (mIf c ma mb) := by
  intro ρ σ H hd ls Q d hd' hR hL hm hQ
  obtain ⟨⟨d1, h1⟩, e1, hm⟩ := Option.bind_eq_some_iff.mp hm
  refine hc ρ σ H hd ls _ d1 h1 hR hL e1 λ ρ1 H1 x1 R1 => ?_
  cases d1 with
  | true =>
    rw [if_pos rfl] at hm ⊢
    exact ha ρ1 σ H1 h1 ls Q d hd' R1 (hL.ext hR x1) hm λ ρ2 H2 v x2 R2 r2 => hQ ρ2 H2 v (x1.trans R1 x2) R2 r2
  | false =>
    rw [if_neg Bool.false_ne_true] at hm ⊢
    exact hb ρ1 σ H1 h1 ls Q d hd' R1 (hL.ext hR x1) hm λ ρ2 H2 v x2 R2 r2 => hQ ρ2 H2 v (x1.trans R1 x2) R2 r2
def mAndV (ma mb : ME) : ME := λ ls hd => (mTest ma ls hd).bind λ p => if p.1 = true then mb ls p.2 else some (.im (.bl false), p.2)
def mOrV (ma mb : ME) : ME := λ ls hd => (mTest ma ls hd).bind λ p => if p.1 = true then some (.im (.bl true), p.2) else mb ls p.2
def mNotV (ma : ME) : ME := λ ls hd => (mTest ma ls hd).bind λ p => some (.im (.bl (!p.1)), p.2)
theorem re_andV {ta tb : TE} {ma mb : ME} (ha : RE K ta ma) (hb : RE K tb mb) : RE K (tAndV ta tb) (mAndV ma mb) := by
  intro ρ σ H hd ls Q d hd' hR hL hm hQ
  obtain ⟨⟨d1, h1⟩, e1, hm⟩ := Option.bind_eq_some_iff.mp hm
  refine rt_test ha ρ σ H hd ls (λ c H1 => if c = true then tb σ H1 Q else Q (.bl false) H1) d1 h1 hR hL e1 λ ρ1 H1 x1 R1 => ?_
  cases d1 with
  | true =>
    rw [if_pos rfl] at hm ⊢
    exact hb ρ1 σ H1 h1 ls Q d hd' R1 (hL.ext hR x1) hm λ ρ2 H2 v x2 R2 r2 => hQ ρ2 H2 v (x1.trans R1 x2) R2 r2
  | false =>
    rw [if_neg Bool.false_ne_true] at hm ⊢
    cases hm
    exact hQ ρ1 H1 _ x1 R1 (by simp [RD, RI])
theorem re_orV {ta tb : TE} {ma mb : ME} (ha : RE K ta ma) (hb : RE K tb mb) : RE K (tOrV ta tb) (mOrV ma mb) := by
  intro ρ σ H hd ls Q d hd' hR hL hm hQ
  obtain ⟨⟨d1, h1⟩, e1, hm⟩ := Option.bind_eq_some_iff.mp hm
  refine rt_test ha ρ σ H hd ls (λ c H1 => if c = true then Q (.bl true) H1 else tb σ H1 Q) d1 h1 hR hL e1 λ ρ1 H1 x1 R1 => ?_
  cases d1 with
  | true =>
    rw [if_pos rfl] at hm ⊢
    cases hm
    exact hQ ρ1 H1 _ x1 R1 (by simp [RD, RI])
  | false =>
    rw [if_neg Bool.false_ne_true] at hm ⊢
    exact hb ρ1 σ H1 h1 ls Q d hd' R1 (hL.ext hR x1) hm λ ρ2 H2 v x2 R2 r2 => hQ ρ2 H2 v (x1.trans R1 x2) R2 r2
def mNil : MA := λ _ hd => some ([], hd)
def mCons (ma : ME) (mr : MA) : MA := λ ls hd => (ma ls hd).bind λ p => (mr ls p.2).bind λ q => some (p.1 :: q.1, q.2)
theorem ra_nil : RA K tNil mNil := by
  intro ρ σ H hd ls Q d hd' hR hL hm hQ
  cases hm
  exact hQ ρ H [] .refl hR .nil
theorem ra_cons {ta : TE} {tr : TA} {ma : ME} {mr : MA} (ha : RE K ta ma) (hr : RA K tr mr) : RA K (tCons ta tr) (mCons ma mr) := by
  intro ρ σ H hd ls Q d hd' hR hL hm hQ
  obtain ⟨⟨d1, h1⟩, e1, hm⟩ := Option.bind_eq_some_iff.mp hm
  obtain ⟨⟨d2, h2⟩, e2, hm⟩ := Option.bind_eq_some_iff.mp hm
  cases hm
  refine ha ρ σ H hd ls _ d1 h1 hR hL e1 λ ρ1 H1 v1 x1 R1 r1 => ?_
  exact hr ρ1 σ H1 h1 ls _ d2 _ R1 (hL.ext hR x1) e2 λ ρ2 H2 v2 x2 R2 r2 => hQ ρ2 H2 _ (x1.trans R1 x2) R2 (.cons (r1.ext R1 x2) r2)
open Classical in
noncomputable def mTup (ma : MA) : ME := λ ls hd => (ma ls hd).bind λ p => if fits p.1.length then some (mkTup p.1, p.2) else none
theorem re_tup {t : TA} {m : MA} (h : RA K t m) : RE K (tTup t) (mTup m) := by
  intro ρ σ H hd ls Q d hd' hR hL hm hQ
  obtain ⟨⟨d1, h1⟩, e1, hm⟩ := Option.bind_eq_some_iff.mp hm
  dsimp only at hm
  split at hm
  . next z =>
    cases hm
    refine h ρ σ H hd ls _ d1 _ hR hL e1 λ ρ1 H1 v1 x1 R1 r1 => ⟨by rw [r1.len]; exact z, λ p hp => ?_⟩
    obtain ⟨R2, x2⟩ := R1.hid (ho := .tup v1) hp
    exact hQ ρ1 _ _ (x1.trans R1 x2) R2 (rd_mkTup (SqT.of upd_same) (r1.ext R1 x2))
  . cases hm
open Classical in
noncomputable def mLst (ma : MA) : MA := λ ls hd => (ma ls hd).bind λ p => if fits p.1.length then some (p.1, p.2) else none
theorem RH.out (hR : RH K ρ H hd) {a : Addr} (h : H a = none) : a ∉ ρ := λ m => by rcases hR.mut m with ⟨y, z⟩ | ⟨y, z⟩ <;> (rw [h] at z; cases z)
theorem Ext.none (e : Ext ρ H ρ' H') (hR : RH K ρ H hd) {a : Addr} (h : H' a = none) (hR' : RH K ρ' H' hd') : H a = none := by
  cases q : H a with
  | none => rfl
  | some o =>
    by_cases m : a ∈ ρ
    . obtain ⟨r, rfl, _⟩ := e.pre
      exact absurd (List.mem_append_left r m) (hR'.out h)
    . by_cases t : ∃ ps, o = .tbl ps
      . obtain ⟨ps, rfl⟩ := t
        obtain ⟨ps', this⟩ := e.tab a ps q
        rw [h] at this; cases this
      . rw [e.keep a o q m λ ps y => t ⟨ps, y⟩] at h; cases h
theorem rn_lst {t : TA} {m : MA} (h : RA K t m) : RN K (tLst t) (mLst m) := by
  intro ρ σ H hd ls Q d hd' hR hL hm hQ
  obtain ⟨⟨d1, h1⟩, e1, hm⟩ := Option.bind_eq_some_iff.mp hm
  dsimp only at hm
  split at hm
  . next z =>
    cases hm
    refine h ρ σ H hd ls _ _ _ hR hL e1 λ ρ1 H1 v1 x1 R1 r1 => ⟨by rw [r1.len]; exact z, λ p hp => ?_⟩
    obtain ⟨R2, x2⟩ := R1.hid (ho := .lst v1) hp
    exact hQ ρ1 _ p v1 (x1.trans R1 x2) R2 (x1.none hR hp R1) (R1.out hp) upd_same (r1.ext R1 x2)
  . cases hm
def mNew (ml : MA) : ME := λ ls hd => (ml ls hd).bind λ p => some (.mu p.2.length, p.2 ++ [.lst p.1])
theorem RH.name (hR : RH K ρ H hd) {a : Addr} {xs : List V} {ds : List D} (out : a ∉ ρ) (e : H a = some (.lst xs)) (r : RDs K ρ H ds xs) : RH K (ρ ++ [a]) H (hd ++ [.lst ds]) := by
  have mono : ∀ {o : MO} {ho : HO}, RC K ρ H o ho -> RC K (ρ ++ [a]) H o ho := λ c => c.mono Grow.refl [a]
  refine ⟨by simp [hR.len], ?_, hR.tabs, λ n o' b e1 e2 => ?_⟩
  . rw [List.nodup_append]
    refine ⟨hR.nd, by simp, λ x hx y hy z => ?_⟩
    simp at hy; subst hy; subst z; exact out hx
  . by_cases hn : n < ρ.length
    . rw [List.getElem?_append_left hn] at e2
      rw [List.getElem?_append_left (by rw [<- hR.len]; exact hn)] at e1
      obtain ⟨ho', q1, q2⟩ := hR.ob n o' b e1 e2
      exact ⟨ho', q1, mono q2⟩
    . have hn' : n = ρ.length := by
        have := (List.getElem?_eq_some_iff.mp e2).1
        simp at this; omega
      subst hn'
      simp at e2
      rw [hR.len] at e1
      simp at e1
      subst e1; subst e2
      exact ⟨_, e, mono ⟨xs, rfl, r⟩⟩
theorem Ext.name (e : Ext ρ H ρ' H') {a : Addr} (h : H a = Option.none) : Ext ρ H (ρ' ++ [a]) H' := by
  obtain ⟨r, rfl, f⟩ := e.pre
  refine ⟨⟨r ++ [a], by simp, λ b m => ?_⟩, e.keep, e.tab⟩
  rcases List.mem_append.mp m with m | m
  . exact f b m
  . simp at m; subst m; exact h
theorem re_new {t : TE} {m : MA} (h : RN K t m) : RE K t (mNew m) := by
  intro ρ σ H hd ls Q d hd' hR hL hm hQ
  obtain ⟨⟨d1, h1⟩, e1, hm⟩ := Option.bind_eq_some_iff.mp hm
  cases hm
  refine h ρ σ H hd ls Q d1 h1 hR hL e1 λ ρ1 H1 a xs x1 R1 na oa ea r1 => ?_
  refine hQ (ρ1 ++ [a]) H1 _ (x1.name na) (R1.name oa ea r1) ?_
  simp only [RD]
  exact ⟨a, by rw [<- R1.len]; simp, rfl⟩
end
end L2
namespace L2
open PySem PySem.Spec PyProof.Rows
section
variable {K : PySem.W.Frag} {ρ ρ' : List Addr} {H H' : Hp} {hd hd' : Hd}
def fI (g : Int -> Int -> Option I) : D -> D -> Hd -> Option (D × Hd)
  | .im (.int i), .im (.int j), hd => (g i j).map (.im ·, hd)
  | _, _, _ => none
theorem rb_I {C : Int -> Int -> Prop} {g : Int -> Int -> V} {f : Int -> Int -> Option I} (h : ∀ i j z, f i j = some z -> C i j /\ ∀ H, RI K H z (g i j)) : RB K (rI C g) (fI f) := by
  intro ρ H hd d e v u Q z hd' hR h1 h2 hf hQ
  unfold fI at hf
  split at hf
  . simp only [RD, RI] at h1 h2
    subst h1 h2
    obtain ⟨w, e1, e2⟩ := Option.map_eq_some_iff.mp hf
    cases e2
    obtain ⟨c, r⟩ := h _ _ _ e1
    exact ⟨_, _, rfl, rfl, c, hQ ρ H _ .refl hR (by simpa only [RD] using r H)⟩
  . cases hf
theorem rb_I0 {g : Int -> Int -> V} {f : Int -> Int -> I} (h : ∀ i j H, RI K H (f i j) (g i j)) : RB K (rI0 g) (fI λ i j => some (f i j)) := by
  intro ρ H hd d e v u Q z hd' hR h1 h2 hf hQ
  unfold fI at hf
  split at hf
  . simp only [RD, RI] at h1 h2
    subst h1 h2
    cases hf
    exact ⟨_, _, rfl, rfl, hQ ρ H _ .refl hR (by simpa only [RD] using h _ _ H)⟩
  . cases hf
def fElse (f g : D -> D -> Hd -> Option (D × Hd)) : D -> D -> Hd -> Option (D × Hd) := λ d e hd => match f d e hd with
  | some z => some z
  | none => g d e hd
theorem rb_else {r r' : R2} {f g : D -> D -> Hd -> Option (D × Hd)} (h : RB K r f) (h' : RB K r' g) : RB K (λ x y H Q => r x y H Q ∨ r' x y H Q) (fElse f g) := by
  intro ρ H hd d e v u Q z hd' hR h1 h2 hf hQ
  unfold fElse at hf
  split at hf
  . next q => cases hf; exact .inl (h ρ H hd d e v u Q z hd' hR h1 h2 q hQ)
  . exact .inr (h' ρ H hd d e v u Q z hd' hR h1 h2 hf hQ)
abbrev gAdd : D -> D -> Hd -> Option (D × Hd) := fI λ i j => some (.int (i + j))
abbrev gSubt : D -> D -> Hd -> Option (D × Hd) := fI λ i j => some (.int (i - j))
theorem rb_add : RB K (rI0 λ i j => .int (i + j)) gAdd := rb_I0 λ _ _ _ => by simp [RI]
theorem rb_sub : RB K (rI0 λ i j => .int (i - j)) gSubt := rb_I0 λ _ _ _ => by simp [RI]
open Classical in
noncomputable abbrev gMul : D -> D -> Hd -> Option (D × Hd) := fI λ i j => if mulOk i j then some (.int (i * j)) else none
theorem rb_mul : RB K (rI CMul λ i j => .int (i * j)) gMul := rb_I λ i j z h => by
  split at h
  . next q => cases h; exact ⟨q, λ _ => by simp [RI]⟩
  . cases h
open Classical in
noncomputable abbrev gMod : D -> D -> Hd -> Option (D × Hd) := fI λ i j => if modOk j then some (.int (i % j)) else none
theorem rb_mod : RB K (rI (λ _ j => 0 < j) λ i j => .int (i % j)) gMod := rb_I λ i j z h => by
  split at h
  . next q => cases h; exact ⟨q, λ _ => by simp [RI]⟩
  . cases h
open Classical in
noncomputable abbrev gFdiv : D -> D -> Hd -> Option (D × Hd) := fI λ i j => if divOk j then some (.int (i / j)) else none
theorem rb_fdiv : RB K (rI CDiv λ i j => .int (i / j)) gFdiv := rb_I λ i j z h => by
  split at h
  . next q => cases h; exact ⟨q, λ _ => by simp [RI]⟩
  . cases h
open Classical in
noncomputable abbrev gPow : D -> D -> Hd -> Option (D × Hd) := fI λ i j => if powOk i j then some (.int (i ^ j.toNat)) else none
theorem rb_pow : RB K (rI CPow λ i j => .int (i ^ j.toNat)) gPow := rb_I λ i j z h => by
  split at h
  . next q => cases h; exact ⟨q, λ _ => by simp [RI]⟩
  . cases h
abbrev gLt : D -> D -> Hd -> Option (D × Hd) := fI λ i j => some (.bl (decide (i < j)))
abbrev gLe : D -> D -> Hd -> Option (D × Hd) := fI λ i j => some (.bl (decide (i <= j)))
abbrev gGt : D -> D -> Hd -> Option (D × Hd) := fI λ i j => some (.bl (decide (j < i)))
abbrev gGe : D -> D -> Hd -> Option (D × Hd) := fI λ i j => some (.bl (decide (j <= i)))
theorem rb_lt : RB K (rI0 λ i j => .bl (decide (i < j))) gLt := rb_I0 λ _ _ _ => by simp [RI]
theorem rb_le : RB K (rI0 λ i j => .bl (decide (i <= j))) gLe := rb_I0 λ _ _ _ => by simp [RI]
theorem rb_gt : RB K (rI0 λ i j => .bl (decide (j < i))) gGt := rb_I0 λ _ _ _ => by simp [RI]
theorem rb_ge : RB K (rI0 λ i j => .bl (decide (j <= i))) gGe := rb_I0 λ _ _ _ => by simp [RI]
def scI : I -> Option V
  | .non => some .non
  | .bl b => some (.bl b)
  | .int i => some (.int i)
  | .str x => some (.str x)
  | .tup _ => none
theorem scI_rd {i : I} {v w : V} (e : scI i = some w) (h : RI K H i v) : v = w := by
  cases i with
  | tup _ => simp [scI] at e
  | _ => simp only [scI, Option.some.injEq] at e; subst e; simpa only [RI] using h
def gEqS (neg : Bool) : D -> D -> Hd -> Option (D × Hd)
  | .im i, .im j, hd => match scI i, scI j with
    | some x, some y => if scal x y = true then some (.im (.bl (if neg then !decide (x = y) else decide (x = y))), hd) else none
    | _, _ => none
  | _, _, _ => none
theorem rb_eqS : RB K rEq (gEqS false) := by
  intro ρ H hd d e v u Q z hd' hR h1 h2 hf hQ
  unfold gEqS at hf
  split at hf
  . split at hf
    . next x y e1 e2 =>
      split at hf
      . next s =>
        cases hf
        simp only [RD] at h1 h2
        rw [scI_rd e1 h1, scI_rd e2 h2]
        exact ⟨s, hQ ρ H _ .refl hR (by simp [RD, RI])⟩
      . cases hf
    . cases hf
  . cases hf
theorem rb_neS : RB K rNe (gEqS true) := by
  intro ρ H hd d e v u Q z hd' hR h1 h2 hf hQ
  unfold gEqS at hf
  split at hf
  . split at hf
    . next x y e1 e2 =>
      split at hf
      . next s =>
        cases hf
        simp only [RD] at h1 h2
        rw [scI_rd e1 h1, scI_rd e2 h2]
        exact ⟨s, hQ ρ H _ .refl hR (by simp [RD, RI])⟩
      . cases hf
    . cases hf
  . cases hf
mutual
def I.py : I -> PyData
  | .non => .none
  | .bl b => .bool b
  | .int i => .int i
  | .str x => .str x
  | .tup ds => .tuple (I.pys ds)
def I.pys : List I -> List PyData
  | [] => []
  | d :: ds => I.py d :: I.pys ds
end
mutual
theorem RI.rep : ∀ {i : I} {v : V}, RI K H i v -> Rep K H i.py v
  | .non, v, h => by simpa only [RI, I.py, Rep] using h
  | .bl _, v, h => by simpa only [RI, I.py, Rep] using h
  | .int _, v, h => by simpa only [RI, I.py, Rep] using h
  | .str _, v, h => by simpa only [RI, I.py, Rep] using h
  | .tup ds, v, h => by
    simp only [RI] at h
    obtain ⟨a, xs, e, q, r⟩ := h
    simp only [I.py, Rep]
    exact ⟨a, xs, e, q, RIs.rep r⟩
theorem RIs.rep : ∀ {i : List I} {v : List V}, RIs K H i v -> RepAll K H (I.pys i) v
  | [], v, h => by simpa only [RIs, I.pys, RepAll] using h
  | d :: ds, v, h => by
    simp only [RIs] at h
    obtain ⟨x, r, e, q, z⟩ := h
    simp only [I.pys, RepAll]
    exact ⟨x, r, e, q.rep, RIs.rep z⟩
end
def pyD (hd : Hd) : D -> Option PyData
  | .im i => some i.py
  | .mu n => match hd[n]? with
    | some (.lst ds) => (allIm ds).map λ is => .list (I.pys is)
    | _ => none
  | .ro ns => some (.list (I.pys (ns.map I.int)))
  | _ => none
theorem pyD_rep {d : D} {v : V} {p : PyData} (hR : RH K ρ H hd) (h : RD K ρ H d v) (e : pyD hd d = some p) : Rep K H p v := by
  cases d with
  | im i => simp only [pyD, Option.some.injEq] at e; subst e; simp only [RD] at h; exact h.rep
  | mu n =>
    simp only [pyD] at e
    simp only [RD] at h
    obtain ⟨a, hn, rfl⟩ := h
    split at e
    . next q =>
      obtain ⟨is, e1, rfl⟩ := Option.map_eq_some_iff.mp e
      obtain ⟨xs, e2, e3⟩ := hR.lst hn q
      rw [allIm_eq e1] at e3
      simp only [Rep]
      exact ⟨a, xs, rfl, SqL.of e2, e3.is.rep⟩
    . cases e
  | ro ns =>
    simp only [pyD, Option.some.injEq] at e; subst e
    obtain ⟨a, xs, rfl, q, r⟩ := h.lst hR (hd := hd) (ds := ns.map λ n => .im (.int n)) rfl
    simp only [Rep]
    refine ⟨a, xs, rfl, q, RIs.rep (RDs.is (ρ := ρ) ?_)⟩
    rw [List.map_map]
    exact r
  | tm _ => simp [pyD] at e
def gEqP (neg : Bool) : D -> D -> Hd -> Option (D × Hd) := λ d e hd => match pyD hd d, pyD hd e with
  | some x, some y => if x.canLay0 = true /\ y.canLay0 = true /\ min x.depth y.depth <= 60 then some (.im (.bl (if neg then !PyData.eqv x y else PyData.eqv x y)), hd) else none
  | _, _ => none
theorem rb_eqP : RB K (rEqD K) (gEqP false) := by
  intro ρ H hd d e v u Q z hd' hR h1 h2 hf hQ
  unfold gEqP at hf
  split at hf
  . next e1 e2 =>
    split at hf
    . next c => cases hf; exact ⟨_, _, pyD_rep hR h1 e1, pyD_rep hR h2 e2, c.1, c.2.1, c.2.2, hQ ρ H _ .refl hR (by simp [RD, RI])⟩
    . cases hf
  . cases hf
theorem rb_neP : RB K (rNeD K) (gEqP true) := by
  intro ρ H hd d e v u Q z hd' hR h1 h2 hf hQ
  unfold gEqP at hf
  split at hf
  . next e1 e2 =>
    split at hf
    . next c => cases hf; exact ⟨_, _, pyD_rep hR h1 e1, pyD_rep hR h2 e2, c.1, c.2.1, c.2.2, hQ ρ H _ .refl hR (by simp [RD, RI])⟩
    . cases hf
  . cases hf
abbrev gEq := fElse (gEqS false) (gEqP false)
abbrev gNe := fElse (gEqS true) (gEqP true)
def gIx : D -> D -> Hd -> Option (D × Hd)
  | d, .im (.int i), hd => (seqView hd d).bind λ ds => (atI ds i).map (·, hd)
  | _, _, _ => none
theorem atI_len {α β : Type} {xs : List α} {ys : List β} {i : Int} {y : β} (h : xs.length = ys.length) (e : atI ys i = some y) : ∃ (j : Nat), ys[j]? = some y /\ ∀ x, xs[j]? = some x -> atI xs i = some x := by
  unfold atI at e
  obtain ⟨j, e1, e2⟩ := Option.bind_eq_some_iff.mp e
  exact ⟨j, e2, λ x q => by unfold atI; rw [h, e1]; exact q⟩
def rIxLT (K : PySem.W.Frag) : R2 := λ x y H Q => rIxL K x y H Q ∨ rIxT K x y H Q
theorem rb_ix : RB K (rIxLT K) gIx := by
  intro ρ H hd d e v u Q z hd' hR h1 h2 hf hQ
  unfold gIx at hf
  split at hf
  . obtain ⟨ds, e1, hf⟩ := Option.bind_eq_some_iff.mp hf
    obtain ⟨w, e2, e3⟩ := Option.map_eq_some_iff.mp hf
    cases e3
    obtain ⟨a, xs, rfl, q, r⟩ := h1.seq hR e1
    simp only [RD, RI] at h2
    subst h2
    obtain ⟨j, j1, j2⟩ := atI_len r.len e2
    obtain ⟨x, x1, x2⟩ := r.get j1
    rcases q with q | q
    . exact .inl ⟨a, xs, _, x, rfl, rfl, q, j2 x x1, hQ ρ H x .refl hR x2⟩
    . exact .inr ⟨a, xs, _, x, rfl, rfl, q, j2 x x1, hQ ρ H x .refl hR x2⟩
  . cases hf
def cutD (xs : List D) (lo hi : Option Int) : List D := (xs.drop (HT.sIx xs.length 0 lo)).take (HT.sIx xs.length xs.length hi - HT.sIx xs.length 0 lo)
theorem cutD_rd {ds : List D} {xs : List V} {lo hi : Option Int} (r : RDs K ρ H ds xs) : RDs K ρ H (cutD ds lo hi) (cutV xs lo hi) := by
  unfold cutD cutV
  rw [r.len]
  exact (r.drop _).take _
abbrev MO1 := Ls -> Hd -> Option (Option Int × Hd)
def RO1 (K : PySem.W.Frag) (t : TO) (m : MO1) : Prop := ∀ (ρ : List Addr) (σ : St) (H : Hp) (hd : Hd) (ls : Ls) (Q : Option Int -> Hp -> Prop) (d : Option Int) (hd' : Hd), RH K ρ H hd -> RL K ρ H ls σ -> m ls hd = some (d, hd') ->
  (∀ ρ' H', Ext ρ H ρ' H' -> RH K ρ' H' hd' -> Q d H') -> t σ H Q
def mNoPart : MO1 := λ _ hd => some (none, hd)
def mPart (m : ME) : MO1 := λ ls hd => (m ls hd).bind λ p => match p.1 with
  | .im (.int i) => some (some i, p.2)
  | _ => none
theorem ro_none : RO1 K tNoPart mNoPart := by
  intro ρ σ H hd ls Q d hd' hR hL hm hQ
  cases hm
  exact hQ ρ H .refl hR
theorem ro_some {t : TE} {m : ME} (h : RE K t m) : RO1 K (tPart t) (mPart m) := by
  intro ρ σ H hd ls Q d hd' hR hL hm hQ
  obtain ⟨⟨d1, h1⟩, e1, hm⟩ := Option.bind_eq_some_iff.mp hm
  dsimp only at hm
  split at hm
  . cases hm
    exact h ρ σ H hd ls _ _ _ hR hL e1 λ ρ1 H1 v x1 R1 r1 => ⟨_, by simpa only [RD, RI] using r1, hQ ρ1 H1 x1 R1⟩
  . cases hm
def mSlT (m : ME) (ml mh : MO1) : ME := λ ls hd => (m ls hd).bind λ p => (ml ls p.2).bind λ l => (mh ls l.2).bind λ h => (tupView p.1).bind λ ds =>
  if ¬ (HT.sIx ds.length 0 l.1 = 0 /\ HT.sIx ds.length ds.length h.1 = ds.length) then some (mkTup (cutD ds l.1 h.1), h.2) else none
def mSlL (m : ME) (ml mh : MO1) : MA := λ ls hd => (m ls hd).bind λ p => (ml ls p.2).bind λ l => (mh ls l.2).bind λ h => (lstView h.2 p.1).bind λ ds => some (cutD ds l.1 h.1, h.2)
theorem rn_slL {t : TE} {tl th : TO} {m : ME} {ml mh : MO1} (h : RE K t m) (hl : RO1 K tl ml) (hh : RO1 K th mh) : RN K (tSl (rSlL K) t tl th) (mSlL m ml mh) := by
  intro ρ σ H hd ls Q d hd' hR hL hm hQ
  obtain ⟨⟨d1, h1⟩, e1, hm⟩ := Option.bind_eq_some_iff.mp hm
  obtain ⟨⟨d2, h2⟩, e2, hm⟩ := Option.bind_eq_some_iff.mp hm
  obtain ⟨⟨d3, h3⟩, e3, hm⟩ := Option.bind_eq_some_iff.mp hm
  obtain ⟨ds, e4, hm⟩ := Option.bind_eq_some_iff.mp hm
  dsimp only at e2 e3 e4 hm
  cases hm
  refine h ρ σ H hd ls _ d1 h1 hR hL e1 λ ρ1 H1 v1 x1 R1 r1 => ?_
  refine hl ρ1 σ H1 h1 ls _ d2 h2 R1 (hL.ext hR x1) e2 λ ρ2 H2 x2 R2 => ?_
  refine hh ρ2 σ H2 h2 ls _ d3 _ R2 (hL.ext hR (x1.trans R1 x2)) e3 λ ρ3 H3 x3 R3 => ?_
  obtain ⟨a, xs, rfl, q, r⟩ := RD.lst R3 ((r1.ext R1 x2).ext R2 x3) e4
  refine ⟨a, xs, rfl, q, λ p hp => ?_⟩
  obtain ⟨R4, x4⟩ := R3.hid (ho := .lst (cutV xs d2 d3)) hp
  have x123 := (x1.trans R1 x2).trans R2 x3
  exact hQ ρ3 _ p _ (x123.trans R3 x4) R4 (x123.none hR hp R3) (R3.out hp) upd_same ((cutD_rd r).ext R3 x4)
def mCB (f : List D -> Hd -> Option (D × Hd)) (ma : MA) : ME := λ ls hd => (ma ls hd).bind λ p => f p.1 p.2
theorem re_cb {r : List V -> Hp -> VK -> Prop} {f : List D -> Hd -> Option (D × Hd)} {t : TA} {m : MA} (hr : RF K r f) (h : RA K t m) : RE K (tCB r t) (mCB f m) := by
  intro ρ σ H hd ls Q d hd' hR hL hm hQ
  obtain ⟨⟨d1, h1⟩, e1, hm⟩ := Option.bind_eq_some_iff.mp hm
  refine h ρ σ H hd ls _ d1 h1 hR hL e1 λ ρ1 H1 v1 x1 R1 r1 => ?_
  exact hr ρ1 H1 h1 d1 v1 Q d hd' R1 r1 hm λ ρ' H' w x2 R2 r2 => hQ ρ' H' w (x1.trans R1 x2) R2 r2
def f1 (tp : Bool) (g : List D -> Option D) : List D -> Hd -> Option (D × Hd)
  | [d], hd => ((if tp then seqView hd d else lstView hd d)).bind λ ds => (g ds).map (·, hd)
  | _, _ => none
theorem rf_1 {tp : Bool} {r : List V -> Hp -> VK -> Prop} {g : List D -> Option D} (h : RG K tp r g) : RF K r (f1 tp g) := by
  intro ρ H hd ds vs Q z hd' hR h1 hf hQ
  unfold f1 at hf
  split at hf
  . next d hd' =>
    obtain ⟨es, e1, hf⟩ := Option.bind_eq_some_iff.mp hf
    obtain ⟨w, e2, e3⟩ := Option.map_eq_some_iff.mp hf
    cases e3
    simp only [RDs] at h1
    obtain ⟨x, r, rfl, rx, rfl⟩ := h1
    cases tp with
    | true =>
      rw [if_pos rfl] at e1
      obtain ⟨a, xs, rfl, q, rr⟩ := rx.seq hR e1
      exact h ρ H hd a xs es Q z hR (q.imp id λ q => ⟨rfl, q⟩) rr e2 λ H' w x R r => hQ ρ H' w x R r
    | false =>
      rw [if_neg Bool.false_ne_true] at e1
      obtain ⟨a, xs, rfl, q, rr⟩ := rx.lst hR e1
      exact h ρ H hd a xs es Q z hR (.inl q) rr e2 λ H' w x R r => hQ ρ H' w x R r
  . cases hf
def mHid (g : List D -> Option D) (ml : MA) : ME := λ ls hd => (ml ls hd).bind λ p => (g p.1).map (·, p.2)
theorem re_hid {tp : Bool} {r : List V -> Hp -> VK -> Prop} {g : List D -> Option D} {t : TE} {m : MA} (hr : RG K tp r g) (h : RN K t m) : RE K (tCB r (tCons t tNil)) (mHid g m) := by
  intro ρ σ H hd ls Q d hd' hR hL hm hQ
  obtain ⟨⟨d1, h1⟩, e1, hm⟩ := Option.bind_eq_some_iff.mp hm
  obtain ⟨w, e2, e3⟩ := Option.map_eq_some_iff.mp hm
  cases e3
  refine h ρ σ H hd ls _ d1 _ hR hL e1 λ ρ1 H1 a xs x1 R1 na oa ea r1 => ?_
  exact hr ρ1 H1 _ a xs d1 Q d R1 (.inl (SqL.of ea)) r1 e2 λ H' w x R r => hQ ρ1 H' w (x1.trans R1 x) R r
def kLen (ds : List D) : Option D := some (.im (.int ds.length))
theorem rg_len : RG K true (rLen K) kLen := by
  intro ρ H hd a xs ds Q z hR q r e hQ
  cases e
  refine ⟨a, xs, rfl, q.imp id λ q => q.2, ?_⟩
  rw [r.len]
  exact hQ H _ .refl hR (by simp [RD, RI])
def kTuple (ds : List D) : Option D := some (mkTup ds)
theorem rg_tuple : RG K true (rTupleOf K) kTuple := by
  intro ρ H hd a xs ds Q z hR q r e hQ
  cases e
  refine ⟨a, xs, rfl, ?_⟩
  rcases q with q | ⟨_, q⟩
  . refine .inl ⟨q, λ p hp => ?_⟩
    obtain ⟨R2, x2⟩ := hR.hid (ho := .tup xs) hp
    exact hQ _ _ x2 R2 (rd_mkTup (SqT.of upd_same) (r.ext hR x2))
  . exact .inr ⟨q, hQ H _ .refl hR (rd_mkTup q r)⟩
def kSum (ds : List D) : Option D := (intsD ds).map λ ns => .im (.int ns.sum)
def rSum (K : PySem.W.Frag) : List V -> Hp -> VK -> Prop := λ xs H Q => rSumL K xs H Q ∨ rSumT K xs H Q
theorem rg_sum : RG K true (rSum K) kSum := by
  intro ρ H hd a xs ds Q z hR q r e hQ
  obtain ⟨ns, e1, rfl⟩ := Option.map_eq_some_iff.mp e
  rw [intsD_eq e1] at r
  have := rd_ints r
  subst this
  rcases q with q | ⟨_, q⟩
  . exact .inl ⟨a, ns, rfl, q, hQ H _ .refl hR (by simp [RD, RI])⟩
  . exact .inr ⟨a, ns, rfl, q, hQ H _ .refl hR (by simp [RD, RI])⟩
def kAll (ds : List D) : Option D := (blsD ds).map λ bs => .im (.bl (bs.all id))
def kAny (ds : List D) : Option D := (blsD ds).map λ bs => .im (.bl (bs.any id))
theorem rg_all : RG K false (rAll K) kAll := by
  intro ρ H hd a xs ds Q z hR q r e hQ
  obtain ⟨ns, e1, rfl⟩ := Option.map_eq_some_iff.mp e
  rw [blsD_eq e1] at r
  have := rd_bls r
  subst this
  rcases q with q | ⟨q, _⟩
  . exact ⟨a, ns, rfl, q, hQ H _ .refl hR (by simp [RD, RI])⟩
  . cases q
theorem rg_any : RG K false (rAny K) kAny := by
  intro ρ H hd a xs ds Q z hR q r e hQ
  obtain ⟨ns, e1, rfl⟩ := Option.map_eq_some_iff.mp e
  rw [blsD_eq e1] at r
  have := rd_bls r
  subst this
  rcases q with q | ⟨q, _⟩
  . exact ⟨a, ns, rfl, q, hQ H _ .refl hR (by simp [RD, RI])⟩
  . cases q
def maxI : List Int -> Int
  | [] => 0
  | [x] => x
  | x :: r => if maxI r > x then maxI r else x
def minI : List Int -> Int
  | [] => 0
  | [x] => x
  | x :: r => if minI r < x then minI r else x
theorem maxI_spec : ∀ {xs : List Int}, xs ≠ [] -> maxI xs ∈ xs /\ ∀ x ∈ xs, x <= maxI xs
  | [], h => absurd rfl h
  | [x], _ => by simp [maxI]
  | x :: y :: r, _ => by
    obtain ⟨h1, h2⟩ := maxI_spec (xs := y :: r) (by simp)
    rw [maxI]
    split
    . next h => exact ⟨List.mem_cons_of_mem _ h1, λ z m => by rcases List.mem_cons.mp m with rfl | m; omega; exact h2 z m⟩
    . next h => exact ⟨List.mem_cons_self, λ z m => by rcases List.mem_cons.mp m with rfl | m; omega; exact Int.le_trans (h2 z m) (by omega)⟩
    . simp
theorem minI_spec : ∀ {xs : List Int}, xs ≠ [] -> minI xs ∈ xs /\ ∀ x ∈ xs, minI xs <= x
  | [], h => absurd rfl h
  | [x], _ => by simp [minI]
  | x :: y :: r, _ => by
    obtain ⟨h1, h2⟩ := minI_spec (xs := y :: r) (by simp)
    rw [minI]
    split
    . next h => exact ⟨List.mem_cons_of_mem _ h1, λ z m => by rcases List.mem_cons.mp m with rfl | m; omega; exact h2 z m⟩
    . next h => exact ⟨List.mem_cons_self, λ z m => by rcases List.mem_cons.mp m with rfl | m; omega; exact Int.le_trans (by omega) (h2 z m)⟩
    . simp
def kMin (ds : List D) : Option D := (intsD ds).bind λ ns => if ns = [] then none else some (.im (.int (minI ns)))
theorem len_pos {α : Type} {xs : List α} (h : xs ≠ []) : 0 < xs.length := by cases xs <;> simp_all
theorem rg_min : RG K false (rMinL K) kMin := by
  intro ρ H hd a xs ds Q z hR q r e hQ
  obtain ⟨ns, e1, e⟩ := Option.bind_eq_some_iff.mp e
  split at e
  . cases e
  . next hn =>
    cases e
    rw [intsD_eq e1] at r
    have := rd_ints r
    subst this
    have u : ∀ M : Int, M ∈ ns -> (∀ x ∈ ns, M <= x) -> M = minI ns := λ M m1 m2 => by
      obtain ⟨n1, n2⟩ := minI_spec hn
      have := n2 M m1; have := m2 _ n1; omega
    rcases q with q | ⟨q, _⟩
    . exact ⟨a, ns, rfl, q, len_pos hn, λ M m1 m2 => by rw [u M m1 m2]; exact hQ H _ .refl hR (by simp [RD, RI])⟩
    . cases q
def fMax2 : List D -> Hd -> Option (D × Hd)
  | [.im (.int i), .im (.int j)], hd => some (.im (.int (if j > i then j else i)), hd)
  | _, _ => none
def fMin2 : List D -> Hd -> Option (D × Hd)
  | [.im (.int i), .im (.int j)], hd => some (.im (.int (if j < i then j else i)), hd)
  | _, _ => none
def fAbs : List D -> Hd -> Option (D × Hd)
  | [.im (.int i)], hd => some (.im (.int (if i < 0 then -i else i)), hd)
  | _, _ => none
def mList (ma : ME) : MA := λ ls hd => (ma ls hd).bind λ p => (seqView p.2 p.1).map (·, p.2)
def mListH (ml : MA) : MA := ml
theorem rn_listH {t : TE} {m : MA} (h : RN K t m) : RN K (tCB (rListOf K) (tCons t tNil)) (mListH m) := by
  intro ρ σ H hd ls Q d hd' hR hL hm hQ
  refine h ρ σ H hd ls _ d _ hR hL hm λ ρ1 H1 a xs x1 R1 na oa ea r1 => ?_
  refine ⟨a, xs, rfl, .inl (SqL.of ea), λ l hl => ?_⟩
  obtain ⟨R2, x2⟩ := R1.hid (ho := .lst xs) hl
  exact hQ ρ1 _ l xs (x1.trans R1 x2) R2 (x1.none hR hl R1) (R1.out hl) upd_same (r1.ext R1 x2)
def okRepr (d : PyData) : Prop := d.showable = true /\ d.hasDict = false /\ isDisplay d = true /\ d.depth <= 30 /\ d.shown.length <= sizeLine
def flatI : I -> Option V
  | .non => some .non
  | .bl b => some (.bl b)
  | .int i => some (.int i)
  | .str x => some (.str x)
  | .tup _ => none
def flatDs : List D -> Option (List V)
  | [] => some []
  | .im i :: r => (flatI i).bind λ v => (flatDs r).map (v :: ·)
  | _ :: _ => none
theorem flatI_rd {i : I} {v w : V} (e : flatI i = some w) (h : RI K H i v) : v = w /\ flatV w = true := by
  cases i with
  | tup _ => simp [flatI] at e
  | _ => simp only [flatI, Option.some.injEq] at e; subst e; exact ⟨by simpa only [RI] using h, rfl⟩
theorem flatDs_rd : ∀ {ds : List D} {vs ws : List V}, flatDs ds = some ws -> RDs K ρ H ds vs -> vs = ws /\ ws.all flatV = true
  | [], vs, ws, e, h => by simp [flatDs] at e; subst e; simp only [RDs] at h; subst h; exact ⟨rfl, rfl⟩
  | .im i :: r, vs, ws, e, h => by
    simp only [flatDs] at e
    obtain ⟨v, e1, e⟩ := Option.bind_eq_some_iff.mp e
    obtain ⟨us, e2, rfl⟩ := Option.map_eq_some_iff.mp e
    simp only [RDs, RD] at h
    obtain ⟨x, y, rfl, h1, h2⟩ := h
    obtain ⟨rfl, f1⟩ := flatI_rd e1 h1
    obtain ⟨rfl, f2⟩ := flatDs_rd e2 h2
    exact ⟨rfl, by simp [f1, f2]⟩
  | .mu _ :: _, _, _, e, _ => by simp [flatDs] at e
  | .tm _ :: _, _, _, e, _ => by simp [flatDs] at e
  | .ro _ :: _, _, _, e, _ => by simp [flatDs] at e
def gIn (neg : Bool) : D -> D -> Hd -> Option (D × Hd)
  | .im i, e, hd => (flatI i).bind λ x => (seqView hd e).bind λ ds => (flatDs ds).map λ xs => (.im (.bl (if neg then !inV x xs else inV x xs)), hd)
  | _, _, _ => none
theorem rb_in {neg : Bool} : RB K (rIn K neg) (gIn neg) := by
  intro ρ H hd d e v u Q z hd' hR h1 h2 hf hQ
  unfold gIn at hf
  split at hf
  . obtain ⟨x, e1, hf⟩ := Option.bind_eq_some_iff.mp hf
    obtain ⟨ds, e2, hf⟩ := Option.bind_eq_some_iff.mp hf
    obtain ⟨xs, e3, e4⟩ := Option.map_eq_some_iff.mp hf
    cases e4
    simp only [RD] at h1
    obtain ⟨rfl, f1⟩ := flatI_rd e1 h1
    obtain ⟨a, ys, rfl, q, r⟩ := h2.seq hR e2
    obtain ⟨rfl, f2⟩ := flatDs_rd e3 r
    exact ⟨a, ys, rfl, q, f1, f2, hQ ρ H _ .refl hR (by simp [RD, RI])⟩
  . cases hf
def mMt (f : D -> List D -> Hd -> Option (D × Hd)) (mo : ME) (ma : MA) : ME := λ ls hd => (mo ls hd).bind λ p => match lstView p.2 p.1 with
  | some _ => (ma ls p.2).bind λ q => f p.1 q.1 q.2
  | none => none
def RM (K : PySem.W.Frag) (r : V -> List V -> Hp -> VK -> Prop) (f : D -> List D -> Hd -> Option (D × Hd)) : Prop := ∀ (ρ : List Addr) (H : Hp) (hd : Hd) (d : D) (v : V) (ds : List D) (vs : List V) (Q : VK) (z : D) (hd' : Hd), RH K ρ H hd -> RD K ρ H d v -> RDs K ρ H ds vs -> f d ds hd = some (z, hd') ->
  (∀ ρ' H' w, Ext ρ H ρ' H' -> RH K ρ' H' hd' -> RD K ρ' H' z w -> Q w H') -> r v vs H Q
theorem re_mt {r : V -> List V -> Hp -> VK -> Prop} {f : D -> List D -> Hd -> Option (D × Hd)} {to : TE} {t : TA} {mo : ME} {ma : MA} (hr : RM K r f) (ho : RE K to mo) (ha : RA K t ma) : RE K (tBM K "list" r to t) (mMt f mo ma) := by
  intro ρ σ H hd ls Q d hd' hR hL hm hQ
  obtain ⟨⟨d1, h1⟩, e1, hm⟩ := Option.bind_eq_some_iff.mp hm
  dsimp only at hm
  split at hm
  . next e =>
    obtain ⟨⟨d2, h2⟩, e2, hm⟩ := Option.bind_eq_some_iff.mp hm
    refine ho ρ σ H hd ls _ d1 h1 hR hL e1 λ ρ1 H1 v x1 R1 r1 => ⟨?_, ?_⟩
    . obtain ⟨a, xs, rfl, q, _⟩ := r1.lst R1 e
      exact .inl ⟨rfl, xs, q⟩
    . exact ha ρ1 σ H1 h1 ls _ d2 h2 R1 (hL.ext hR x1) e2 λ ρ2 H2 vs x2 R2 r2 => hr ρ2 H2 h2 d1 v d2 vs Q d hd' R2 (r1.ext R1 x2) r2 hm λ ρ' H' w x3 R3 r3 => hQ ρ' H' w ((x1.trans R1 x2).trans R2 x3) R3 r3
  . cases hm
open Classical in
noncomputable def fAppend : D -> List D -> Hd -> Option (D × Hd)
  | .mu n, [x], hd => match hd[n]? with
    | some (.lst ds) => if fitsL ds.length then some (.im .non, hd.set n (.lst (ds ++ [x]))) else none
    | _ => none
  | _, _, _ => none
theorem rm_append : RM K rAppend fAppend := by
  intro ρ H hd d v ds vs Q z hd' hR h1 h2 hf hQ
  unfold fAppend at hf
  split at hf
  . split at hf
    . next q =>
      split at hf
      . next c =>
        cases hf
        simp only [RD] at h1
        obtain ⟨a, hn, rfl⟩ := h1
        simp only [RDs] at h2
        obtain ⟨x, r, rfl, rx, rfl⟩ := h2
        obtain ⟨xs, e1, e2⟩ := hR.lst hn q
        obtain ⟨R2, x2⟩ := hR.put hn (o := .lst (_ ++ [_])) (ho := .lst (xs ++ [x])) ⟨_, rfl, e2.app (.cons rx .nil)⟩
        exact ⟨a, xs, x, rfl, rfl, e1, by rw [e2.len]; exact c, hQ ρ _ _ x2 R2 (by simp [RD, RI])⟩
      . cases hf
    . cases hf
  . cases hf
theorem RDs.dropLast {ds : List D} {xs : List V} (h : RDs K ρ H ds xs) : RDs K ρ H ds.dropLast xs.dropLast := by
  rw [List.dropLast_eq_take, List.dropLast_eq_take, h.len]
  exact h.take _
end
end L2
namespace L2
open PySem PySem.Spec PyProof.Rows
section
variable {K : PySem.W.Frag} {ρ ρ' : List Addr} {H H' : Hp} {hd hd' : Hd}
theorem Lands.mono {E : Ends} : ∀ {f : Fl}, Lands K E ρ H f -> Lands K E ρ H f := id
def mNext : MS := λ ls hd => some (.nx ls, hd)
theorem rs_next : RS K tNext mNext := by
  intro ρ σ H hd ls E f hd' hR hL hm hQ
  cases hm
  exact hQ ρ H .refl hR σ hL
def mSeq (a b : MS) : MS := λ ls hd => (a ls hd).bind λ p => match p.1 with
  | .nx ls1 => b ls1 p.2
  | f => some (f, p.2)
theorem rs_seq {t u : TS} {a b : MS} (ha : RS K t a) (hb : RS K u b) : RS K (tSeq t u) (mSeq a b) := by
  intro ρ σ H hd ls E f hd' hR hL hm hQ
  obtain ⟨⟨f1, h1⟩, e1, hm⟩ := Option.bind_eq_some_iff.mp hm
  refine ha ρ σ H hd ls { E with nx := u E } f1 h1 hR hL e1 λ ρ1 H1 x1 R1 => ?_
  cases f1 with
  | nx ls1 =>
    intro σ1 L1
    exact hb ρ1 σ1 H1 h1 ls1 E f hd' R1 L1 hm λ ρ2 H2 x2 R2 => hQ ρ2 H2 (x1.trans R1 x2) R2
  | bk ls1 => cases hm; exact hQ ρ1 H1 x1 R1
  | ct ls1 => cases hm; exact hQ ρ1 H1 x1 R1
  | rt d => cases hm; exact hQ ρ1 H1 x1 R1
def mBreak : MS := λ ls hd => some (.bk ls, hd)
def mCont : MS := λ ls hd => some (.ct ls, hd)
def mDrop (m : ME) : MS := λ ls hd => (m ls hd).bind λ p => some (.nx ls, p.2)
theorem rs_drop {t : TE} {m : ME} (h : RE K t m) : RS K (tDrop t) (mDrop m) := by
  intro ρ σ H hd ls E f hd' hR hL hm hQ
  obtain ⟨⟨d1, h1⟩, e1, hm⟩ := Option.bind_eq_some_iff.mp hm
  cases hm
  exact h ρ σ H hd ls _ d1 _ hR hL e1 λ ρ1 H1 v x1 R1 r1 => hQ ρ1 H1 x1 R1 σ (hL.ext hR x1)
def mRet (m : ME) : MS := λ ls hd => (m ls hd).bind λ p => some (.rt p.1, p.2)
theorem rs_ret {t : TE} {m : ME} (h : RE K t m) : RS K (tRet t) (mRet m) := by
  intro ρ σ H hd ls E f hd' hR hL hm hQ
  obtain ⟨⟨d1, h1⟩, e1, hm⟩ := Option.bind_eq_some_iff.mp hm
  cases hm
  exact h ρ σ H hd ls _ d1 _ hR hL e1 λ ρ1 H1 v x1 R1 r1 => hQ ρ1 H1 x1 R1 v r1
def mRetN : MS := λ _ hd => some (.rt (.im .non), hd)
def mIfS (c : MT) (a b : MS) : MS := λ ls hd => (c ls hd).bind λ p => if p.1 = true then a ls p.2 else b ls p.2
theorem rs_if {tc : TT} {t u : TS} {c : MT} {a b : MS} (hc : RT K tc c) (ha : RS K t a) (hb : RS K u b) : RS K (tIfS tc t u) (mIfS c a b) := by
  intro ρ σ H hd ls E f hd' hR hL hm hQ
  obtain ⟨⟨d1, h1⟩, e1, hm⟩ := Option.bind_eq_some_iff.mp hm
  refine hc ρ σ H hd ls _ d1 h1 hR hL e1 λ ρ1 H1 x1 R1 => ?_
  cases d1 with
  | true =>
    rw [if_pos rfl] at hm ⊢
    exact ha ρ1 σ H1 h1 ls E f hd' R1 (hL.ext hR x1) hm λ ρ2 H2 x2 R2 => hQ ρ2 H2 (x1.trans R1 x2) R2
  | false =>
    rw [if_neg Bool.false_ne_true] at hm ⊢
    exact hb ρ1 σ H1 h1 ls E f hd' R1 (hL.ext hR x1) hm λ ρ2 H2 x2 R2 => hQ ρ2 H2 (x1.trans R1 x2) R2
def mNever : MS := λ _ _ => none
theorem rs_never : RS K tNever mNever := by
  intro ρ σ H hd ls E f hd' hR hL hm hQ
  cases hm
abbrev MG := D -> Ls -> Hd -> Option Ls
abbrev MGs := List D -> Ls -> Hd -> Option Ls
def RGt (K : PySem.W.Frag) (t : TG) (m : MG) : Prop := ∀ (ρ : List Addr) (σ : St) (H : Hp) (hd : Hd) (ls ls' : Ls) (d : D) (v : V) (Q : St -> Hp -> Prop), RH K ρ H hd -> RL K ρ H ls σ -> RD K ρ H d v -> m d ls hd = some ls' ->
  (∀ σ', RL K ρ H ls' σ' -> Q σ' H) -> t v σ H Q
def RGts (K : PySem.W.Frag) (t : TGs) (m : MGs) : Prop := ∀ (ρ : List Addr) (σ : St) (H : Hp) (hd : Hd) (ls ls' : Ls) (d : List D) (v : List V) (Q : St -> Hp -> Prop), RH K ρ H hd -> RL K ρ H ls σ -> RDs K ρ H d v -> m d ls hd = some ls' ->
  (∀ σ', RL K ρ H ls' σ' -> Q σ' H) -> t v σ H Q
theorem RL.set {ls : Ls} {σ : St} {d : D} {v : V} (h : RL K ρ H ls σ) (i : Nat) (r : RD K ρ H d v) : RL K ρ H (ls.set i (some d)) (σ.set i (some v)) := by
  refine ⟨by simp [h.len], λ j e q => ?_⟩
  by_cases hij : i = j
  . subst hij
    have hl : i < ls.length := by
      have := (List.getElem?_eq_some_iff.mp q).1
      simpa using this
    rw [List.getElem?_set_self hl] at q
    cases q
    exact ⟨v, by rw [List.getElem?_set_self (by rw [<- h.len]; exact hl)], r⟩
  . rw [List.getElem?_set_ne hij] at q
    obtain ⟨w, e1, e2⟩ := h.ob j e q
    exact ⟨w, by rw [List.getElem?_set_ne hij]; exact e1, e2⟩
def nName (i : Nat) : MG := λ d ls _ => some (ls.set i (some d))
theorem rg_name {i : Nat} : RGt K (gName i) (nName i) := by
  intro ρ σ H hd ls ls' d v Q hR hL hd hm hQ
  cases hm
  exact hQ _ (hL.set i hd)
def nNil : MGs := λ ds ls _ => match ds with
  | [] => some ls
  | _ => none
def nCons (m : MG) (r : MGs) : MGs := λ ds ls hd => match ds with
  | d :: es => (m d ls hd).bind λ ls1 => r es ls1 hd
  | [] => none
theorem rgs_nil : RGts K gNil nNil := by
  intro ρ σ H hd ls ls' d v Q hR hL hd hm hQ
  cases d with
  | nil =>
    simp only [RDs] at hd; subst hd
    cases hm
    exact ⟨rfl, hQ _ hL⟩
  | cons a b => cases hm
theorem rgs_cons {t : TG} {u : TGs} {m : MG} {r : MGs} (h : RGt K t m) (h' : RGts K u r) : RGts K (gCons t u) (nCons m r) := by
  intro ρ σ H hd ls ls' d v Q hR hL hd hm hQ
  cases d with
  | nil => cases hm
  | cons a b =>
    simp only [RDs] at hd
    obtain ⟨x, y, rfl, h1, h2⟩ := hd
    obtain ⟨ls1, e1, e2⟩ := Option.bind_eq_some_iff.mp hm
    exact ⟨x, y, rfl, h ρ σ H _ ls ls1 a x _ hR hL h1 e1 λ σ1 L1 => h' ρ σ1 H _ ls1 ls' b y Q hR L1 h2 e2 hQ⟩
def nTup (n : Nat) (r : MGs) : MG := λ d ls hd => (tupView d).bind λ ds => if ds.length = n then r ds ls hd else none
theorem rg_tup {n : Nat} {u : TGs} {r : MGs} (h' : RGts K u r) : RGt K (gTup K n u) (nTup n r) := by
  intro ρ σ H hd ls ls' d v Q hR hL hd hm hQ
  obtain ⟨ds, e1, hm⟩ := Option.bind_eq_some_iff.mp hm
  split at hm
  . next c =>
    obtain ⟨a, xs, rfl, q, rr⟩ := hd.tup e1
    exact ⟨a, xs, rfl, q, by rw [rr.len]; exact c, h' ρ σ H _ ls ls' ds xs Q hR hL rr hm hQ⟩
  . cases hm
def mAsg (m : ME) (g : MG) : MS := λ ls hd => (m ls hd).bind λ p => (g p.1 ls p.2).map λ ls' => (.nx ls', p.2)
theorem rs_asg {t : TE} {m : ME} {g : TG} {n : MG} (h : RE K t m) (hg : RGt K g n) : RS K (tAsg t g) (mAsg m n) := by
  intro ρ σ H hd ls E f hd' hR hL hm hQ
  obtain ⟨⟨d1, h1⟩, e1, hm⟩ := Option.bind_eq_some_iff.mp hm
  obtain ⟨ls', e2, e3⟩ := Option.map_eq_some_iff.mp hm
  cases e3
  exact h ρ σ H hd ls _ d1 _ hR hL e1 λ ρ1 H1 v x1 R1 r1 => hg ρ1 σ H1 _ ls ls' d1 v _ R1 (hL.ext hR x1) r1 e2 λ σ' L' => hQ ρ1 H1 x1 R1 σ' L'
abbrev mSet (i : Nat) (m : ME) : MS := mAsg m (nName i)
def mPar (ix : List Nat) (ma : MA) : MS := λ ls hd => (ma ls hd).bind λ p => if p.1.length = ix.length then some (.nx ((ix.zip p.1).foldl (λ l q => l.set q.1 (some q.2)) ls), p.2) else none
def mPar3 (i j k : Nat) (ma : MA) : MS := mPar [k, j, i] (λ ls hd => (ma ls hd).map λ p => (p.1.reverse, p.2))
abbrev Gd := List (Nat × List D)
abbrev MI := Ls -> Hd -> Option ((List D × Gd) × Hd)
def GOk (hd : Hd) (g : Gd) : Prop := ∀ p ∈ g, hd[p.1]? = some (.lst p.2)
@[simp] theorem gok_nil (hd : Hd) : GOk hd [] := λ p h => by cases h
def Yields (K : PySem.W.Frag) (ρ : List Addr) (H : Hp) (J : It) (ds : List D) (g : Gd) : Prop := ∀ (ρ2 : List Addr) (H2 : Hp) (hd2 : Hd), Ext ρ H ρ2 H2 -> RH K ρ2 H2 hd2 -> GOk hd2 g ->
  ∀ i : Nat, (i < ds.length -> J.go i H2 /\ ∀ x H3, J.yld i H2 x H3 -> ∃ ρ3 d, Ext ρ2 H2 ρ3 H3 /\ ρ3 = ρ2 /\ RH K ρ3 H3 hd2 /\ ds[i]? = some d /\ RD K ρ3 H3 d x) /\ (i = ds.length -> J.stop i H2)
def RIt (K : PySem.W.Frag) (t : TI) (m : MI) : Prop := ∀ (ρ : List Addr) (σ : St) (H : Hp) (hd : Hd) (ls : Ls) (Q : It -> Hp -> Prop) (d : List D) (g : Gd) (hd' : Hd), RH K ρ H hd -> RL K ρ H ls σ -> m ls hd = some ((d, g), hd') ->
  (∀ ρ' H' J, Ext ρ H ρ' H' -> RH K ρ' H' hd' -> GOk hd' g -> Yields K ρ' H' J d g -> Q J H') -> t σ H Q
theorem yields_tup {a : Addr} {xs : List V} {ds : List D} (hR : RH K ρ H hd) (q : SqT K H a xs) (r : RDs K ρ H ds xs) (g : Gd) : Yields K ρ H (Itt K a) ds g := by
  intro ρ2 H2 hd2 x2 R2 _ i
  have q2 := (x2.grow hR).sq q
  have r2 := r.ext hR x2
  have uniq : ∀ ys, SqT K H2 a ys -> True := λ _ _ => trivial
  refine ⟨λ hi => ?_, λ hi => ⟨xs, q2, by rw [r2.len, hi]; exact Nat.le_refl _⟩⟩
  have e : ds[i]? = some ds[i] := by simp [hi]
  obtain ⟨x, x1, x3⟩ := r2.get e
  refine ⟨⟨xs, x, q2, x1⟩, λ y H3 ⟨e3, hy⟩ => ?_⟩
  subst e3
  have := hy xs q2
  rw [x1] at this
  cases this
  exact ⟨ρ2, _, .refl, rfl, R2, e, x3⟩
def mItT (m : ME) : MI := λ ls hd => (m ls hd).bind λ p => (tupView p.1).map λ ds => ((ds, []), p.2)
theorem ri_tup {t : TE} {m : ME} (h : RE K t m) : RIt K (iTup K t) (mItT m) := by
  intro ρ σ H hd ls Q d g hd' hR hL hm hQ
  obtain ⟨⟨d1, h1⟩, e1, hm⟩ := Option.bind_eq_some_iff.mp hm
  obtain ⟨ds, e2, e3⟩ := Option.map_eq_some_iff.mp hm
  cases e3
  refine h ρ σ H hd ls _ d1 _ hR hL e1 λ ρ1 H1 v x1 R1 r1 => ?_
  obtain ⟨a, xs, rfl, q, r⟩ := r1.tup e2
  exact ⟨a, rfl, ⟨xs, q⟩, hQ ρ1 H1 _ x1 R1 (gok_nil _) (yields_tup R1 q r [])⟩
def mItL (m : ME) : MI := λ ls hd => (m ls hd).bind λ p => match p.1 with
  | .mu n => match p.2[n]? with
    | some (.lst ds) => some ((ds, [(n, ds)]), p.2)
    | _ => none
  | .ro ns => some ((ns.map λ n => .im (.int n), []), p.2)
  | _ => none
theorem ri_list {t : TE} {m : ME} (h : RE K t m) : RIt K (iList K t) (mItL m) := by
  intro ρ σ H hd ls Q d g hd' hR hL hm hQ
  obtain ⟨⟨d1, h1⟩, e1, hm⟩ := Option.bind_eq_some_iff.mp hm
  dsimp only at hm
  split at hm
  . next n =>
    split at hm
    . next ds q =>
      cases hm
      refine h ρ σ H hd ls _ _ _ hR hL e1 λ ρ1 H1 v x1 R1 r1 => ?_
      simp only [RD] at r1
      obtain ⟨a, hn, rfl⟩ := r1
      obtain ⟨xs, e2, e3⟩ := R1.lst hn q
      refine ⟨a, rfl, ⟨xs, SqL.of e2⟩, hQ ρ1 H1 _ x1 R1 (λ p z => by simp at z; subst z; exact q) ?_⟩
      intro ρ2 H2 hd2 x2 R2 G2 i
      have q2 := G2 (n, d) (by simp)
      have hn2 : ρ2[n]? = some a := by
        obtain ⟨r, rfl, _⟩ := x2.pre
        rw [List.getElem?_append_left (List.getElem?_eq_some_iff.mp hn).1]; exact hn
      obtain ⟨ys, e4, e5⟩ := R2.lst hn2 q2
      refine ⟨λ hi => ?_, λ hi => ⟨ys, SqL.of e4, by rw [e5.len, hi]; exact Nat.le_refl _⟩⟩
      have e : d[i]? = some d[i] := by simp [hi]
      obtain ⟨x, y1, y2⟩ := e5.get e
      refine ⟨⟨ys, x, SqL.of e4, y1⟩, λ y H3 ⟨e6, hy⟩ => ?_⟩
      subst e6
      have := hy ys (SqL.of e4)
      rw [y1] at this
      cases this
      exact ⟨ρ2, _, .refl, rfl, R2, e, y2⟩
    . cases hm
  . next ns =>
    cases hm
    refine h ρ σ H hd ls _ _ _ hR hL e1 λ ρ1 H1 v x1 R1 r1 => ?_
    simp only [RD] at r1
    obtain ⟨a, rfl, q⟩ := r1
    refine ⟨a, rfl, ⟨_, q.sq⟩, hQ ρ1 H1 _ x1 R1 (gok_nil _) ?_⟩
    intro ρ2 H2 hd2 x2 R2 G2 i
    have q2 := (q.grow (x2.grow R1)).sq
    have e5 : RDs K ρ2 H2 (ns.map λ n => .im (.int n)) (ns.map V.int) := ints_rd
    refine ⟨λ hi => ?_, λ hi => ⟨_, q2, by rw [e5.len, hi]; exact Nat.le_refl _⟩⟩
    have e : (ns.map λ n => D.im (.int n))[i]? = some ((ns.map λ n => D.im (.int n))[i]) := by simp [hi]
    obtain ⟨x, y1, y2⟩ := e5.get e
    refine ⟨⟨_, x, q2, y1⟩, λ y H3 ⟨e6, hy⟩ => ?_⟩
    subst e6
    have := hy _ q2
    rw [y1] at this
    cases this
    exact ⟨ρ2, _, .refl, rfl, R2, e, y2⟩
  . cases hm
def mItH (ml : MA) : MI := λ ls hd => (ml ls hd).map λ p => ((p.1, []), p.2)
theorem ri_hid {t : TE} {m : MA} (h : RN K t m) : RIt K (iList K t) (mItH m) := by
  intro ρ σ H hd ls Q d g hd' hR hL hm hQ
  obtain ⟨⟨d1, h1⟩, e1, e3⟩ := Option.map_eq_some_iff.mp hm
  obtain ⟨⟨rfl, rfl⟩, rfl⟩ := Prod.mk.inj e3 |>.imp Prod.mk.inj id
  clear e3 hm
  refine h ρ σ H hd ls _ _ _ hR hL e1 λ ρ1 H1 a xs x1 R1 na oa ea r1 => ?_
  refine ⟨a, rfl, ⟨xs, SqL.of ea⟩, hQ ρ1 H1 _ x1 R1 (gok_nil _) ?_⟩
  intro ρ2 H2 hd2 x2 R2 G2 i
  have q2 : SqL K H2 a xs := SqL.of (x2.keep a _ ea oa nt)
  have r2 := r1.ext R1 x2
  refine ⟨λ hi => ?_, λ hi => ⟨xs, q2, by rw [r2.len, hi]; exact Nat.le_refl _⟩⟩
  have hi : i < d1.length := hi
  have e : d1[i]? = some d1[i] := by simp [hi]
  obtain ⟨x, y1, y2⟩ := r2.get e
  refine ⟨⟨xs, x, q2, y1⟩, λ y H3 ⟨e6, hy⟩ => ?_⟩
  subst e6
  have := hy xs q2
  rw [y1] at this
  cases this
  exact ⟨ρ2, _, .refl, rfl, R2, e, y2⟩
def rangeD (lo : Int) : Nat -> List D
  | 0 => []
  | n + 1 => .im (.int lo) :: rangeD (lo + 1) n
@[simp] theorem rangeD_len (lo : Int) (n : Nat) : (rangeD lo n).length = n := by
  induction n generalizing lo with
  | zero => rfl
  | succ n ih => simp [rangeD, ih]
theorem rangeD_get {n : Nat} : ∀ {lo : Int} {i : Nat}, i < n -> (rangeD lo n)[i]? = some (.im (.int (lo + i))) := by
  induction n with
  | zero => intro lo i h; omega
  | succ n ih =>
    intro lo i h
    cases i with
    | zero => simp [rangeD]
    | succ i =>
      simp only [rangeD, List.getElem?_cons_succ]
      rw [ih (by omega)]
      congr 3
      push_cast
      omega
theorem yields_rng {lo : Int} {n : Nat} {g : Gd} : Yields K ρ H (Itr lo n) (rangeD lo n) g := by
  intro ρ2 H2 hd2 x2 R2 G2 i
  refine ⟨λ hi => ?_, λ hi => by rw [hi, rangeD_len]; exact Nat.le_refl _⟩
  rw [rangeD_len] at hi
  refine ⟨hi, λ x H3 ⟨e1, e2⟩ => ?_⟩
  subst e1 e2
  exact ⟨ρ2, _, .refl, rfl, R2, rangeD_get hi, by simp [RD, RI]⟩
open Classical in
noncomputable def mItR (m : MA) : MI := λ ls hd => (m ls hd).bind λ p => match p.1 with
  | [.im (.int j)] => if rng1 j then some ((rangeD 0 j.toNat, []), p.2) else none
  | _ => none
theorem ri_rng1 {t : TA} {m : MA} (h : RA K t m) : RIt K (iRng1 t) (mItR m) := by
  intro ρ σ H hd ls Q d g hd' hR hL hm hQ
  obtain ⟨⟨d1, h1⟩, e1, hm⟩ := Option.bind_eq_some_iff.mp hm
  dsimp only at hm
  split at hm
  . next j =>
    split at hm
    . next c =>
      cases hm
      refine h ρ σ H hd ls _ _ _ hR hL e1 λ ρ1 H1 v x1 R1 r1 => ?_
      simp only [RDs, RD, RI] at r1
      obtain ⟨x, r, rfl, rfl, rfl⟩ := r1
      exact ⟨j, rfl, c.1, c.2, hQ ρ1 H1 _ x1 R1 (gok_nil _) yields_rng⟩
    . cases hm
  . cases hm
open Classical in
noncomputable def mItR2 (m : MA) : MI := λ ls hd => (m ls hd).bind λ p => match p.1 with
  | [.im (.int i), .im (.int j)] => if rng2 i j then some ((rangeD i (j - i).toNat, []), p.2) else none
  | _ => none
open Classical in
noncomputable def mLoop (n : MG) (b : MS) (g : Gd) : List D -> Ls -> Hd -> Option (Fl × Hd)
  | [], ls, hd => some (.nx ls, hd)
  | d :: r, ls, hd => (n d ls hd).bind λ ls1 => (b ls1 hd).bind λ p => match p.1 with
    | .nx ls2 => if GOk p.2 g then mLoop n b g r ls2 p.2 else none
    | .ct ls2 => if GOk p.2 g then mLoop n b g r ls2 p.2 else none
    | .bk ls2 => some (.nx ls2, p.2)
    | .rt d => some (.rt d, p.2)
noncomputable def mFor (mi : MI) (n : MG) (b : MS) : MS := λ ls hd => (mi ls hd).bind λ p => mLoop n b p.1.2 p.1.1 ls p.2
theorem rs_for {wi : TI} {g : TG} {tb : TS} {mi : MI} {n : MG} {b : MS} (hi : RIt K wi mi) (hg : RGt K g n) (hb : RS K tb b) : RS K (tFor wi g tb) (mFor mi n b) := by
  intro ρ σ H hd ls E f hd' hR hL hm hQ
  obtain ⟨⟨⟨ds, gd⟩, h1⟩, e1, hm⟩ := Option.bind_eq_some_iff.mp hm
  refine hi ρ σ H hd ls _ ds gd h1 hR hL e1 λ ρ1 H1 J x1 R1 G1 Y => ?_
  dsimp only at hm
  refine ⟨λ i m σ2 H2 => m = ds.length - i /\ i <= ds.length /\ ∃ ρ2 ls2 hd2, Ext ρ1 H1 ρ2 H2 /\ RH K ρ2 H2 hd2 /\ RL K ρ2 H2 ls2 σ2 /\ GOk hd2 gd /\ mLoop n b gd (ds.drop i) ls2 hd2 = some (f, hd'),
    ⟨ds.length, by simp, Nat.zero_le _, ρ1, ls, h1, .refl, R1, hL.ext hR x1, G1, by simpa using hm⟩, ?_⟩
  rintro i m σ2 H2 ⟨rfl, hi, ρ2, ls2, hd2, x2, R2, L2', G2, hm2⟩
  obtain ⟨Y1, Y2⟩ := Y ρ2 H2 hd2 x2 R2 G2 i
  by_cases hlt : i < ds.length
  . obtain ⟨go, Y1⟩ := Y1 hlt
    have ed : ds.drop i = ds[i] :: ds.drop (i + 1) := List.drop_eq_getElem_cons hlt
    rw [ed] at hm2
    unfold mLoop at hm2
    obtain ⟨ls3, e3, hm2⟩ := Option.bind_eq_some_iff.mp hm2
    obtain ⟨⟨fl, hd4⟩, e4, hm2⟩ := Option.bind_eq_some_iff.mp hm2
    refine .inr ⟨go, λ σ' H' => ∃ ρ2 ls2 hd2, Ext ρ1 H1 ρ2 H' /\ RH K ρ2 H' hd2 /\ RL K ρ2 H' ls2 σ' /\ GOk hd2 gd /\ mLoop n b gd (ds.drop (i + 1)) ls2 hd2 = some (f, hd'), λ σ' H' z => ⟨ds.length - (i + 1), by omega, rfl, hlt, z⟩, λ x H3 y => ?_⟩
    obtain ⟨ρ3, d3, x3, rfl, R3, e5, r3⟩ := Y1 x H3 y
    have e6 : d3 = ds[i] := by
      have : ds[i]? = some ds[i] := by simp [hlt]
      rw [this] at e5; exact (Option.some.inj e5).symm
    subst e6
    refine hg ρ3 σ2 H3 hd2 ls2 ls3 _ x _ R3 (L2'.ext R2 x3) r3 e3 λ σ4 L4 => ?_
    refine hb ρ3 σ4 H3 hd2 ls3 _ fl hd4 R3 L4 e4 λ ρ5 H5 x5 R5 => ?_
    have x15 := (x2.trans R2 x3).trans R3 x5
    cases fl with
    | nx ls5 =>
      intro σ5 L5
      dsimp only at hm2
      split at hm2
      . next c => exact ⟨ρ5, ls5, hd4, x15, R5, L5, c, hm2⟩
      . cases hm2
    | ct ls5 =>
      intro σ5 L5
      dsimp only at hm2
      split at hm2
      . next c => exact ⟨ρ5, ls5, hd4, x15, R5, L5, c, hm2⟩
      . cases hm2
    | bk ls5 =>
      intro σ5 L5
      cases hm2
      exact hQ ρ5 H5 (x1.trans R1 x15) R5 σ5 L5
    | rt d5 =>
      intro v5 r5
      cases hm2
      exact hQ ρ5 H5 (x1.trans R1 x15) R5 v5 r5
  . have e : i = ds.length := by omega
    subst e
    rw [List.drop_length] at hm2
    unfold mLoop at hm2
    cases hm2
    exact .inl ⟨Y2 rfl, hQ ρ2 H2 (x1.trans R1 x2) R2 σ2 L2'⟩
open Classical in
noncomputable def mCompGo (n : MG) (c : MT) (m : ME) (g : Gd) : List D -> Ls -> Hd -> Option (List D × Hd)
  | [], _, hd => some ([], hd)
  | d :: r, ls, hd => (n d ls hd).bind λ ls1 => (c ls1 hd).bind λ p => if p.1 = true then (m ls1 p.2).bind λ q => if GOk q.2 g then (mCompGo n c m g r ls1 q.2).map λ z => (q.1 :: z.1, z.2) else none else if GOk p.2 g then mCompGo n c m g r ls1 p.2 else none
def captD (k : Nat) (ix : List Nat) (ls : Ls) : Ls := List.replicate k none ++ ix.map λ i => (ls[i]?).join
open Classical in
noncomputable def mComp (k : Nat) (ix : List Nat) (mi : MI) (n : MG) (c : MT) (m : ME) : MA := λ ls hd => (mi ls hd).bind λ p => if fits p.1.1.length then mCompGo n c m p.1.2 p.1.1 (captD k ix ls) p.2 else none
theorem capt_rl {k : Nat} {ix : List Nat} {ls : Ls} {σ : St} (h : RL K ρ H ls σ) : RL K ρ H (captD k ix ls) (capt k ix σ) := by
  refine ⟨by simp [captD, capt], λ i d e => ?_⟩
  unfold captD at e
  unfold capt
  by_cases hi : i < k
  . rw [List.getElem?_append_left (by simpa using hi), List.getElem?_replicate] at e
    split at e <;> cases e
  . have hi' : k <= i := Nat.not_lt.mp hi
    rw [List.getElem?_append_right (by simpa using hi'), List.length_replicate, List.getElem?_map] at e ⊢
    cases q : ix[i - k]? with
    | none => rw [q] at e; cases e
    | some j =>
      rw [q] at e
      simp only [Option.map_some, Option.some.injEq] at e ⊢
      have e5 : ls[j]? = some (some d) := by
        cases w : ls[j]? with
        | none => rw [w] at e; cases e
        | some z => rw [w] at e; simpa using e
      obtain ⟨v, e6, e7⟩ := h.ob j d e5
      exact ⟨v, by rw [e6]; rfl, e7⟩
theorem rn_comp {k : Nat} {ix : List Nat} {wi : TI} {g : TG} {tf : TT} {te : TE} {mi : MI} {n : MG} {c : MT} {m : ME} (hi : RIt K wi mi) (hg : RGt K g n) (hf : RT K tf c) (he : RE K te m) : RN K (tComp k ix wi g tf te) (mComp k ix mi n c m) := by
  intro ρ σ H hd ls Q out hd' hR hL hm hQ
  obtain ⟨⟨⟨ds, gd⟩, h1⟩, e1, hm⟩ := Option.bind_eq_some_iff.mp hm
  dsimp only at hm
  split at hm
  . next hlen =>
    have hlen : ds.length <= sizeLine := hlen
    refine hi ρ σ H hd ls _ ds gd h1 hR hL e1 λ ρ1 H1 J x1 R1 G1 Y => ?_
    intro Da hDa
    obtain ⟨R1', x1'⟩ := R1.hid (ho := .lst []) hDa
    have oD : Da ∉ ρ1 := R1.out hDa
    have nD : H Da = none := x1.none hR hDa R1
    refine ⟨λ i mm σ2 ys H2 => mm = ds.length - i /\ i <= ds.length /\ ∃ ρ2 ls2 hd2 es rest, Ext ρ1 (upd H1 Da (.lst ys)) ρ2 H2 /\ Ext ρ1 H1 ρ2 H2 /\ Da ∉ ρ2 /\ H2 Da = some (.lst ys) /\ RH K ρ2 H2 hd2 /\ RL K ρ2 H2 ls2 σ2 /\ RDs K ρ2 H2 es ys /\ es.length <= i /\ GOk hd2 gd /\ mCompGo n c m gd (ds.drop i) ls2 hd2 = some (rest, hd') /\ out = es ++ rest,
      ⟨ds.length, by simp, Nat.zero_le _, ρ1, _, h1, [], out, .refl, x1', oD, upd_same, R1', (capt_rl ((hL.ext hR x1).ext R1 x1')), .nil, Nat.le_refl _, G1, by simpa using hm, rfl⟩, ?_⟩
    rintro i mm σ2 ys H2 ⟨rfl, hi, ρ2, ls2, hd2, es, rest, x2', x2, oD2, hD2, R2, L2', r2, hle, G2, hm2, rfl⟩
    refine ⟨hD2, ?_⟩
    obtain ⟨Y1, Y2⟩ := Y ρ2 H2 hd2 x2 R2 G2 i
    by_cases hlt : i < ds.length
    . obtain ⟨go, Y1⟩ := Y1 hlt
      have ed : ds.drop i = ds[i] :: ds.drop (i + 1) := List.drop_eq_getElem_cons hlt
      rw [ed] at hm2
      unfold mCompGo at hm2
      obtain ⟨ls3, e3, hm2⟩ := Option.bind_eq_some_iff.mp hm2
      obtain ⟨⟨bb, hd4⟩, e4, hm2⟩ := Option.bind_eq_some_iff.mp hm2
      refine .inr ⟨go, Nat.lt_of_le_of_lt (by rw [r2.len]; exact hle) (by omega), λ σ' ys' H' => ∃ ρ2 ls2 hd2 es' rest', Ext ρ1 (upd H1 Da (.lst ys')) ρ2 H' /\ Ext ρ1 H1 ρ2 H' /\ Da ∉ ρ2 /\ H' Da = some (.lst ys') /\ RH K ρ2 H' hd2 /\ RL K ρ2 H' ls2 σ' /\ RDs K ρ2 H' es' ys' /\ es'.length <= i + 1 /\ GOk hd2 gd /\ mCompGo n c m gd (ds.drop (i + 1)) ls2 hd2 = some (rest', hd') /\ es ++ rest = es' ++ rest', λ σ' ys' H' z => ⟨ds.length - (i + 1), by omega, rfl, hlt, z⟩, λ x H3 y => ?_⟩
      obtain ⟨ρ3, d3, x3, rfl, R3, e5, r3⟩ := Y1 x H3 y
      have e6 : d3 = ds[i] := by
        have : ds[i]? = some ds[i] := by simp [hlt]
        rw [this] at e5; exact (Option.some.inj e5).symm
      subst e6
      refine hg ρ3 σ2 H3 hd2 ls2 ls3 _ x _ R3 (L2'.ext R2 x3) r3 e3 λ σ4 L4 => ?_
      refine hf ρ3 σ4 H3 hd2 ls3 _ bb hd4 R3 L4 e4 λ ρ5 H5 x5 R5 => ?_
      have hD5 : H5 Da = some (.lst ys) := x5.keep Da _ (x3.keep Da _ hD2 oD2 nt) oD2 nt
      have out5 : Da ∉ ρ5 := by
        obtain ⟨r, rfl, fr⟩ := x5.pre
        intro z
        rcases List.mem_append.mp z with z | z
        . exact oD2 z
        . have := fr _ z
          rw [x3.keep Da _ hD2 oD2 nt] at this; cases this
      cases bb with
      | false =>
        rw [if_neg Bool.false_ne_true] at hm2 ⊢
        have y25 := x3.trans R3 x5
        split at hm2
        . next g5 => exact ⟨ρ5, ls3, hd4, es, rest, x2'.trans R2 y25, (x2.trans R2 y25), out5, hD5, R5, L4.ext R3 x5, (r2.ext R2 y25), by omega, g5, hm2, rfl⟩
        . cases hm2
      | true =>
        rw [if_pos rfl] at hm2 ⊢
        obtain ⟨⟨z, hd6⟩, e6, hm2⟩ := Option.bind_eq_some_iff.mp hm2
        obtain ⟨g6, hm2⟩ : GOk hd6 gd /\ ((mCompGo n c m gd (ds.drop (i + 1)) ls3 hd6).map λ q => (z :: q.1, q.2)) = some (rest, hd') := by
          dsimp only at hm2
          split at hm2
          . next g6 => exact ⟨g6, hm2⟩
          . cases hm2
        obtain ⟨⟨zs, hd7⟩, e7, e8⟩ := Option.map_eq_some_iff.mp hm2
        cases e8
        refine he ρ5 σ4 H5 hd4 ls3 _ z hd6 R5 (L4.ext R3 x5) e6 λ ρ6 H6 v6 x6 R6 r6 => ?_
        have hD6 : H6 Da = some (.lst ys) := x6.keep Da _ hD5 out5 nt
        have out6 : Da ∉ ρ6 := by
          obtain ⟨r, rfl, fr⟩ := x6.pre
          intro z
          rcases List.mem_append.mp z with z | z
          . exact out5 z
          . have := fr _ z
            rw [hD5] at this; cases this
        refine ⟨hD6, ?_⟩
        have y26 := (x3.trans R3 x5).trans R5 x6
        have gr : Grow H6 (upd H6 Da (.lst (ys ++ [v6]))) := Grow.refl.put (.lst hD6)
        have R7 := R6.hput (ho := .lst (ys ++ [v6])) out6 hD6
        have x12 := x2.trans R2 y26
        have ext7 : Ext ρ1 H1 ρ6 (upd H6 Da (.lst (ys ++ [v6]))) := ⟨x12.pre, λ b o q nb t => by
          have : b ≠ Da := ne_of_none q hDa
          rw [upd_ne this]; exact x12.keep b o q nb t, λ b ps q => by
          have : b ≠ Da := ne_of_none q hDa
          rw [upd_ne this]; exact x12.tab b ps q⟩
        have ext8 : Ext ρ1 (upd H1 Da (.lst (ys ++ [v6]))) ρ6 (upd H6 Da (.lst (ys ++ [v6]))) := by
          obtain ⟨r, er, fr⟩ := x12.pre
          refine ⟨⟨r, er, λ b hb => ?_⟩, λ b o q nb t => ?_, λ b ps q => ?_⟩
          . have : b ≠ Da := λ z => out6 (by rw [er, <- z]; exact List.mem_append_right _ hb)
            rw [upd_ne this]; exact fr b hb
          . by_cases hb : b = Da
            . subst hb; rw [upd_same] at q ⊢; exact q
            . rw [upd_ne hb] at q ⊢; exact x12.keep b o q nb t
          . by_cases hb : b = Da
            . subst hb; rw [upd_same] at q; cases q
            . rw [upd_ne hb] at q ⊢; exact x12.tab b ps q
        refine ⟨ρ6, ls3, hd6, es ++ [z], zs, ext8, ext7, out6, upd_same, R7, ?_, ?_, by simp; omega, g6, e7, by simp⟩
        . have L6 := (L4.ext R3 x5).ext R5 x6
          exact ⟨L6.len, λ i d e => let ⟨v, a, b⟩ := L6.ob i d e; ⟨v, a, by simpa using b.mono gr []⟩⟩
        . have := ((r2.ext R2 y26).app (.cons r6 .nil)).mono gr []
          simpa using this
    . have e : i = ds.length := by omega
      subst e
      rw [List.drop_length] at hm2
      unfold mCompGo at hm2
      cases hm2
      refine .inl ⟨Y2 rfl, ?_⟩
      exact hQ ρ2 H2 Da ys (x1.trans R1 x2) R2 nD oD2 hD2 (by simpa using r2)
  . cases hm
end
end L2
namespace L2
open PySem PySem.Spec PyProof.Rows
mutual
def clD (w : Nat) : D -> Bool
  | .im _ => true
  | .mu n => decide (n < w)
  | .tm ds => clDs w ds
  | .ro _ => true
def clDs (w : Nat) : List D -> Bool
  | [] => true
  | d :: ds => clD w d && clDs w ds
end
def clKs (w : Nat) : List (Key × D) -> Bool
  | [] => true
  | d :: ds => clD w d.2 && clKs w ds
def clO (w : Nat) : MO -> Bool
  | .lst ds => clDs w ds
  | .dic ds => clKs w ds
section
variable {K : PySem.W.Frag} {ρ ρ' ρ1 : List Addr} {H H' H1 : Hp} {hd hd' h1 h2 : Hd}
mutual
theorem RD.take (w : Nat) : ∀ {d : D} {v : V}, RD K ρ H d v -> clD w d = true -> RD K (ρ.take w) H d v
  | .im i, v, h, _ => by simp only [RD] at h ⊢; exact h
  | .mu n, v, h, c => by
    simp only [RD] at h ⊢
    obtain ⟨a, e, q⟩ := h
    exact ⟨a, by rw [List.getElem?_take_of_lt (by simpa [clD] using c)]; exact e, q⟩
  | .tm ds, v, h, c => by
    simp only [RD] at h ⊢
    obtain ⟨a, xs, e, q, z⟩ := h
    exact ⟨a, xs, e, q, RDs.take' w z (by simpa [clD] using c)⟩
  | .ro ns, v, h, c => by simp only [RD] at h ⊢; exact h
theorem RDs.take' (w : Nat) : ∀ {d : List D} {v : List V}, RDs K ρ H d v -> clDs w d = true -> RDs K (ρ.take w) H d v
  | [], v, h, _ => by simpa only [RDs] using h
  | d :: ds, v, h, c => by
    simp only [RDs] at h ⊢
    obtain ⟨x, r', e, q, z⟩ := h
    have c : clD w d = true /\ clDs w ds = true := by simpa [clDs] using c
    exact ⟨x, r', e, q.take w c.1, RDs.take' w z c.2⟩
end
theorem RKs.take (w : Nat) : ∀ {d : List (Key × D)} {v : List (Key × V)}, RKs K ρ H d v -> clKs w d = true -> RKs K (ρ.take w) H d v
  | [], v, h, _ => by simpa only [RKs] using h
  | d :: ds, v, h, c => by
    simp only [RKs] at h ⊢
    obtain ⟨x, r', e, q1, q, z⟩ := h
    have c : clD w d.2 = true /\ clKs w ds = true := by simpa [clKs] using c
    exact ⟨x, r', e, q1, q.take w c.1, RKs.take w z c.2⟩
theorem RC.take (w : Nat) {o : MO} {ho : HO} (h : RC K ρ H o ho) (c : clO w o = true) : RC K (ρ.take w) H o ho := by
  cases o with
  | lst ds => obtain ⟨xs, e, q⟩ := h; exact ⟨xs, e, q.take' w c⟩
  | dic ds => obtain ⟨xs, e, q⟩ := h; exact ⟨xs, e, q.take w c⟩
theorem RH.take (h : RH K ρ H hd) (w : Nat) (c : (hd.take w).all (clO w) = true) : RH K (ρ.take w) H (hd.take w) := by
  refine ⟨by simp [h.len], h.nd.sublist (List.take_sublist _ _), h.tabs, λ n o a e1 e2 => ?_⟩
  have co := List.all_eq_true.mp c o (List.mem_of_getElem? e1)
  have hn : n < w := by
    have := (List.getElem?_eq_some_iff.mp e1).1
    simp at this; omega
  rw [List.getElem?_take_of_lt hn] at e1 e2
  obtain ⟨ho, q1, q2⟩ := h.ob n o a e1 e2
  exact ⟨ho, q1, q2.take w co⟩
theorem RH.back (R1 : RH K ρ1 H1 h1) {w : Nat} (hw : w <= h1.length) (c1 : (h1.take w).all (clO w) = true) (x : Ext (ρ1.take w) H1 ρ' H') (R' : RH K ρ' H' h2) (c : (h2.take w).all (clO w) = true) :
    RH K ρ1 H' (h2.take w ++ h1.drop w) /\ Ext ρ1 H1 ρ1 H' /\ ρ'.take w = ρ1.take w := by
  obtain ⟨r, rfl, fr⟩ := x.pre
  have lw : (ρ1.take w).length = w := by rw [List.length_take, R1.len]; omega
  have l2 : w <= h2.length := by rw [<- R'.len]; simp [lw]
  have tk : (ρ1.take w ++ r).take w = ρ1.take w := by rw [List.take_append_of_le_length (by omega), List.take_take]; simp
  refine ⟨⟨?_, R1.nd, R'.tabs, λ n o a e1 e2 => ?_⟩, ⟨⟨[], by simp, by simp⟩, λ b o q nb t => x.keep b o q (λ m => nb (List.mem_of_mem_take m)) t, x.tab⟩, tk⟩
  . rw [List.length_append, List.length_take, List.length_drop, R1.len]; omega
  . by_cases hn : n < w
    . rw [List.getElem?_append_left (by rw [List.length_take]; omega), List.getElem?_take_of_lt hn] at e1
      have e3 : (ρ1.take w ++ r)[n]? = some a := by
        rw [List.getElem?_append_left (by omega), List.getElem?_take_of_lt hn]; exact e2
      obtain ⟨ho, q1, q2⟩ := R'.ob n o a e1 e3
      have co := List.all_eq_true.mp c o (by
        have : (h2.take w)[n]? = some o := by rw [List.getElem?_take_of_lt hn]; exact e1
        exact List.mem_of_getElem? this)
      have q3 := q2.take w co
      rw [tk] at q3
      have q4 := q3.mono (Grow.refl (H := H')) (ρ1.drop w)
      rw [List.take_append_drop] at q4
      exact ⟨ho, q1, q4⟩
    . rw [List.getElem?_append_right (by rw [List.length_take]; omega), List.length_take, List.getElem?_drop] at e1
      have e1 : h1[n]? = some o := by
        have : w + (n - min w h2.length) = n := by omega
        rw [this] at e1; exact e1
      obtain ⟨ho, q1, q2⟩ := R1.ob n o a e1 e2
      have out : a ∉ ρ1.take w := λ m => by
        obtain ⟨k, hk⟩ := List.mem_iff_getElem?.mp m
        have kw : k < w := by
          have := (List.getElem?_eq_some_iff.mp hk).1
          rw [lw] at this; exact this
        rw [List.getElem?_take_of_lt kw] at hk
        have := (List.getElem?_inj (List.getElem?_eq_some_iff.mp e2).1 R1.nd).mp (e2.trans hk.symm)
        omega
      have gr := x.grow (R1.take w c1)
      exact ⟨ho, x.keep a ho q1 out (λ ps z => by rcases R1.mut (List.mem_of_getElem? e2) with ⟨y, w⟩ | ⟨y, w⟩ <;> (rw [q1, z] at w; cases w)), by simpa using q2.mono gr []⟩
def spF (K : PySem.W.Frag) (k : Nat) (F : List D -> Hd -> Option (D × Hd)) : Sp := λ vs H Q _ => vs.length = k /\ ∃ (ρ : List Addr) (hd : Hd) (ds : List D) (d : D) (hd' : Hd), RH K ρ H hd /\ RDs K ρ H ds vs /\ F ds hd = some (d, hd') /\
  ∀ ρ' H' v, Ext ρ H ρ' H' -> RH K ρ' H' hd' -> RD K ρ' H' d v -> Q v H'
def mkF (k n : Nat) (m : MS) : List D -> Hd -> Option (D × Hd) := λ ds hd => if ds.length = k then (match m (ds.map some ++ List.replicate (n - k) none) hd with
  | some (.rt d, hd') => some (d, hd')
  | some (.nx _, hd') => some (.im .non, hd')
  | _ => none) else none
theorem rl_start {N : List Str} : ∀ {ds : List D} {vs : List V}, RDs K ρ H ds vs -> RL K ρ H (ds.map some ++ List.replicate (N.length - ds.length) none) (start N vs) := by
  intro ds vs r
  have hl := r.len
  refine ⟨by simp [start, hl], λ i d e => ?_⟩
  unfold start
  by_cases hi : i < ds.length
  . rw [List.getElem?_append_left (by simpa using hi), List.getElem?_map] at e
    have e' : ds[i]? = some d := by
      cases q : ds[i]? with
      | none => rw [q] at e; cases e
      | some z => rw [q] at e; simpa using e
    obtain ⟨x, x1, x2⟩ := r.get e'
    exact ⟨x, by rw [List.getElem?_append_left (by rw [List.length_map, hl]; exact hi), List.getElem?_map, x1]; rfl, x2⟩
  . rw [List.getElem?_append_right (by simpa using Nat.not_lt.mp hi), List.getElem?_replicate] at e
    split at e <;> cases e
theorem sp_body {k : Nat} {N : List Str} {m : MS} {t : TS} (h : RS K t m) {vs : List V} {H : Hp} {Q : VK} {E : XK} (s : spF K k (mkF k N.length m) vs H Q E) : t { nx := λ _ H' => Q .non H', rt := Q } (start N vs) H := by
  obtain ⟨hk, ρ, hd, ds, d, hd', hR, hr, hF, hQ⟩ := s
  unfold mkF at hF
  split at hF
  . next hl =>
    subst hl
    split at hF
    . next q =>
      cases hF
      exact h ρ _ H hd _ _ _ _ hR (rl_start hr) q λ ρ' H' x R v r => hQ ρ' H' v x R r
    . next q =>
      cases hF
      exact h ρ _ H hd _ _ _ _ hR (rl_start hr) q λ ρ' H' x R σ L => hQ ρ' H' .non x R (by simp [RD, RI])
    . cases hF
  . cases hF
def mCallG (F : List D -> Hd -> Option (D × Hd)) (ma : MA) : ME := λ ls hd => (ma ls hd).bind λ p => F p.1 p.2
theorem re_callG {k : Nat} {F : List D -> Hd -> Option (D × Hd)} {t : TA} {m : MA} (h : RA K t m) (hk : ∀ ds hd z, F ds hd = some z -> ds.length = k) : RE K (tCall (spF K k F) [] E0 t) (mCallG F m) := by
  intro ρ σ H hd ls Q d hd' hR hL hm hQ
  obtain ⟨⟨d1, h1⟩, e1, hm⟩ := Option.bind_eq_some_iff.mp hm
  refine h ρ σ H hd ls _ d1 h1 hR hL e1 λ ρ1 H1 v1 x1 R1 r1 => ?_
  rw [List.append_nil]
  exact ⟨by rw [r1.len]; exact hk _ _ _ hm, ρ1, h1, d1, d, hd', R1, r1, hm, λ ρ' H' w x2 R2 r2 => hQ ρ' H' w (x1.trans R1 x2) R2 r2⟩
theorem mkF_len {k n : Nat} {m : MS} : ∀ ds hd z, mkF k n m ds hd = some z -> ds.length = k := λ ds hd z h => by
  unfold mkF at h
  split at h
  . next e => exact e
  . cases h
def fin (w : Nat) (d : D) (h2 rest : Hd) : Option (D × Hd) := if (h2.take w).all (clO w) = true then (match d with
    | .mu k => if k < w then some (.mu k, h2.take w ++ rest) else (match h2[k]? with
      | some (.lst ds) => if clDs w ds = true then some (.mu (w + rest.length), h2.take w ++ rest ++ [.lst ds]) else none
      | _ => none)
    | d => if clD w d = true then some (d, h2.take w ++ rest) else none) else none
def mCallW (w : Nat) (F : List D -> Hd -> Option (D × Hd)) (ma : MA) : ME := λ ls hd => (ma ls hd).bind λ p =>
  if w <= p.2.length /\ clDs w p.1 = true /\ (p.2.take w).all (clO w) = true then (F p.1 (p.2.take w)).bind λ r => fin w r.1 r.2 (p.2.drop w) else none
theorem re_callW {w k : Nat} {F : List D -> Hd -> Option (D × Hd)} {t : TA} {m : MA} (h : RA K t m) (hk : ∀ ds hd z, F ds hd = some z -> ds.length = k) : RE K (tCall (spF K k F) [] E0 t) (mCallW w F m) := by
  intro ρ σ H hd ls Q d hd' hR hL hm hQ
  obtain ⟨⟨d1, h1⟩, e1, hm⟩ := Option.bind_eq_some_iff.mp hm
  dsimp only at hm
  split at hm
  . next c =>
    obtain ⟨c0, c1, c2⟩ := c
    obtain ⟨⟨d2, h2⟩, e2, hm⟩ := Option.bind_eq_some_iff.mp hm
    refine h ρ σ H hd ls _ d1 h1 hR hL e1 λ ρ1 H1 v1 x1 R1 r1 => ?_
    rw [List.append_nil]
    refine ⟨by rw [r1.len]; exact hk _ _ _ e2, ρ1.take w, h1.take w, d1, d2, h2, R1.take w c2, r1.take' w c1, e2, λ ρ' H' v x2 R2 r2 => ?_⟩
    unfold fin at hm
    dsimp only at hm
    split at hm
    . next c3 =>
      obtain ⟨R3, x3, tk⟩ := R1.back c0 c2 x2 R2 c3
      have up : ∀ {d : D} {v : V}, RD K ρ' H' d v -> clD w d = true -> RD K ρ1 H' d v := λ r c => by
        have q := r.take w c
        rw [tk] at q
        have q := q.mono (Grow.refl (H := H')) (ρ1.drop w)
        rw [List.take_append_drop] at q
        exact q
      have ups : ∀ {d : List D} {v : List V}, RDs K ρ' H' d v -> clDs w d = true -> RDs K ρ1 H' d v := λ r c => by
        have q := r.take' w c
        rw [tk] at q
        have q := q.mono (Grow.refl (H := H')) (ρ1.drop w)
        rw [List.take_append_drop] at q
        exact q
      split at hm
      . next k' =>
        split at hm
        . next hk' =>
          cases hm
          exact hQ ρ1 H' v (x1.trans R1 x3) R3 (up r2 (by simpa [clD] using hk'))
        . next hk' =>
          split at hm
          . next ds q =>
            split at hm
            . next c4 =>
              cases hm
              simp only [RD] at r2
              obtain ⟨a, ea, rfl⟩ := r2
              obtain ⟨xs, l1, l2⟩ := R2.lst ea q
              have len3 := R3.len
              have out : a ∉ ρ1 := λ m => by
                -- a is one of those made behind the first w
                obtain ⟨r, er, fr⟩ := x2.pre
                have lw : (ρ1.take w).length = w := by rw [List.length_take, R1.len]; omega
                have ma : a ∈ r := by
                  rw [er, List.getElem?_append_right (by rw [lw]; omega)] at ea
                  exact List.mem_of_getElem? ea
                exact R1.out (fr a ma) m
              have na : H1 a = none := by
                obtain ⟨r, er, fr⟩ := x2.pre
                have lw : (ρ1.take w).length = w := by rw [List.length_take, R1.len]; omega
                have ma : a ∈ r := by
                  rw [er, List.getElem?_append_right (by rw [lw]; omega)] at ea
                  exact List.mem_of_getElem? ea
                exact fr a ma
              refine hQ (ρ1 ++ [a]) H' _ (x1.trans R1 (x3.name na)) (R3.name out l1 (ups l2 c4)) ?_
              simp only [RD]
              refine ⟨a, ?_, rfl⟩
              have : w + (List.drop w h1).length = ρ1.length := by rw [List.length_drop, R1.len]; omega
              rw [this]; simp
            . cases hm
          . cases hm
      . next d' nd =>
        split at hm
        . next c4 => cases hm; exact hQ ρ1 H' v (x1.trans R1 x3) R3 (up r2 c4)
        . cases hm
    . cases hm
  . cases hm
def valD (kvs : List (Key × D)) (k : Key) : Option D := (kvs.find? λ kv => decide (kv.1 = k)).map (·.2)
def putD (kvs : List (Key × D)) (k : Key) (v : D) : List (Key × D) :=
  if (kvs.any λ kv => decide (kv.1 = k)) = true then kvs.map (λ kv => if kv.1 = k then (kv.1, v) else kv) else kvs ++ [(k, v)]
theorem RKs.val : ∀ {kvs : List (Key × D)} {xs : List (Key × V)} {k : Key} {d : D}, RKs K ρ H kvs xs -> valD kvs k = some d -> ∃ v, valV xs k = some v /\ RD K ρ H d v
  | [], xs, k, d, h, e => by simp [valD] at e
  | p :: kvs, xs, k, d, h, e => by
    simp only [RKs] at h
    obtain ⟨x, r, rfl, e1, r1, r2⟩ := h
    by_cases hk : p.1 = k
    . rw [valV_pos (e1.trans hk)]
      simp [valD, List.find?_cons, hk] at e
      subst e
      exact ⟨_, rfl, r1⟩
    . rw [valV_neg (by rw [e1]; exact hk)]
      simp only [valD, List.find?_cons, hk, decide_false] at e
      exact RKs.val r2 e
theorem RKs.valN : ∀ {kvs : List (Key × D)} {xs : List (Key × V)} {k : Key}, RKs K ρ H kvs xs -> (valV xs k).isSome = (valD kvs k).isSome
  | [], xs, k, h => by simp only [RKs] at h; subst h; rfl
  | p :: kvs, xs, k, h => by
    simp only [RKs] at h
    obtain ⟨x, r, rfl, e1, r1, r2⟩ := h
    by_cases hk : p.1 = k
    . rw [valV_pos (e1.trans hk)]; simp [valD, List.find?_cons, hk]
    . rw [valV_neg (by rw [e1]; exact hk)]; simp only [valD, List.find?_cons, hk, decide_false]; exact RKs.valN r2
theorem RKs.any : ∀ {kvs : List (Key × D)} {xs : List (Key × V)} {k : Key}, RKs K ρ H kvs xs -> (xs.any λ kv => decide (kv.1 = k)) = (kvs.any λ kv => decide (kv.1 = k))
  | [], xs, k, h => by simp only [RKs] at h; subst h; rfl
  | p :: kvs, xs, k, h => by
    simp only [RKs] at h
    obtain ⟨x, r, rfl, e1, r1, r2⟩ := h
    simp only [List.any_cons, e1, RKs.any r2]
theorem RKs.upd : ∀ {kvs : List (Key × D)} {xs : List (Key × V)} {k : Key} {d : D} {v : V}, RKs K ρ H kvs xs -> RD K ρ H d v -> RKs K ρ H (kvs.map (λ kv => if kv.1 = k then (kv.1, d) else kv)) (xs.map (λ kv => if kv.1 = k then (kv.1, v) else kv))
  | [], xs, k, d, v, h, _ => by simp only [RKs] at h; subst h; simp [RKs]
  | p :: kvs, xs, k, d, v, h, q => by
    simp only [RKs] at h
    obtain ⟨x, r, rfl, e1, r1, r2⟩ := h
    simp only [List.map_cons, RKs]
    refine ⟨_, _, rfl, ?_, ?_, RKs.upd r2 q⟩
    . rw [e1]; split <;> simp [e1]
    . rw [e1]; split
      . exact q
      . exact r1
theorem RKs.app : ∀ {kvs ks : List (Key × D)} {xs ys : List (Key × V)}, RKs K ρ H kvs xs -> RKs K ρ H ks ys -> RKs K ρ H (kvs ++ ks) (xs ++ ys)
  | [], ks, xs, ys, h, t => by simp only [RKs] at h; subst h; simpa using t
  | d :: ds, ks, xs, ys, h, t => by
    simp only [RKs] at h
    obtain ⟨x, r, rfl, e, z, q⟩ := h
    simp only [List.cons_append, RKs]
    exact ⟨_, _, rfl, e, z, q.app t⟩
theorem RKs.put {kvs : List (Key × D)} {xs : List (Key × V)} {k : Key} {d : D} {v : V} (h : RKs K ρ H kvs xs) (q : RD K ρ H d v) : RKs K ρ H (putD kvs k d) (putK xs k v) := by
  unfold putD putK
  rw [h.any]
  split
  . exact h.upd q
  . exact h.app (by simp only [RKs]; exact ⟨_, _, rfl, rfl, q, rfl⟩)
def keyD : D -> Option Key
  | .im (.int i) => some (.inl i)
  | .im (.str x) => some (.inr x)
  | _ => none
theorem keyD_rd {d : D} {v : V} {k : Key} (h : RD K ρ H d v) (e : keyD d = some k) : v = kV k := by
  cases d with
  | im i =>
    cases i with
    | int i => simp only [keyD, Option.some.injEq] at e; subst e; simp only [RD, RI] at h; exact h
    | str i => simp only [keyD, Option.some.injEq] at e; subst e; simp only [RD, RI] at h; exact h
    | _ => simp [keyD] at e
  | _ => simp [keyD] at e
def dicView (hd : Hd) : D -> Option (List (Key × D))
  | .mu n => match hd[n]? with
    | some (.dic kvs) => some kvs
    | _ => none
  | _ => none
theorem RD.dic {d : D} {v : V} {kvs : List (Key × D)} (hR : RH K ρ H hd) (h : RD K ρ H d v) (e : dicView hd d = some kvs) : ∃ n a xs, d = .mu n /\ v = .ref a /\ ρ[n]? = some a /\ H a = some (.dK xs) /\ RKs K ρ H kvs xs := by
  cases d with
  | mu n =>
    simp only [dicView] at e
    simp only [RD] at h
    obtain ⟨a, hn, rfl⟩ := h
    split at e
    . next q =>
      cases e
      obtain ⟨xs, e1, e2⟩ := hR.dic hn q
      exact ⟨n, a, xs, rfl, rfl, hn, e1, e2⟩
    . cases e
  | _ => simp [dicView] at e
def gDGet : D -> D -> Hd -> Option (D × Hd) := λ d e hd => (dicView hd d).bind λ kvs => (keyD e).bind λ k => (valD kvs k).map (·, hd)
theorem re_dget {td ty : TE} {md my : ME} (hd : RE K td md) (hy : RE K ty my) : RE K (tDGet td ty) (mOp gDGet md my) := by
  intro ρ σ H hd0 ls Q d hd' hR hL hm hQ
  obtain ⟨⟨d1, h1⟩, e1, hm⟩ := Option.bind_eq_some_iff.mp hm
  obtain ⟨⟨d2, h2⟩, e2, hm⟩ := Option.bind_eq_some_iff.mp hm
  obtain ⟨kvs, e3, hm⟩ := Option.bind_eq_some_iff.mp hm
  obtain ⟨k, e4, hm⟩ := Option.bind_eq_some_iff.mp hm
  obtain ⟨w, e5, e6⟩ := Option.map_eq_some_iff.mp hm
  cases e6
  refine hd ρ σ H hd0 ls _ d1 h1 hR hL e1 λ ρ1 H1 v1 x1 R1 r1 => ?_
  refine hy ρ1 σ H1 h1 ls _ d2 _ R1 (hL.ext hR x1) e2 λ ρ2 H2 v2 x2 R2 r2 => ?_
  obtain ⟨n, a, xs, rfl, rfl, hn, l1, l2⟩ := RD.dic R2 (r1.ext R1 x2) e3
  have := keyD_rd r2 e4
  subst this
  obtain ⟨v, v1, v2⟩ := l2.val e5
  exact ⟨a, v, rfl, v1 ▸ DGet.k l1, hQ ρ2 H2 v (x1.trans R1 x2) R2 v2⟩
open Classical in
noncomputable def mDPut (md my mv : ME) : MS := λ ls hd => (mv ls hd).bind λ p => (md ls p.2).bind λ q => (my ls q.2).bind λ r => (keyD r.1).bind λ k => match q.1 with
  | .mu n => match r.2[n]? with
    | some (.dic kvs) => if fitsL kvs.length then some (.nx ls, r.2.set n (.dic (putD kvs k p.1))) else none
    | _ => none
  | _ => none
theorem rs_dput {td ty tv : TE} {md my mv : ME} (hd : RE K td md) (hy : RE K ty my) (hv : RE K tv mv) : RS K (sDPut td ty tv) (mDPut md my mv) := by
  intro ρ σ H hd0 ls E f hd' hR hL hm hQ
  obtain ⟨⟨d1, h1⟩, e1, hm⟩ := Option.bind_eq_some_iff.mp hm
  obtain ⟨⟨d2, h2⟩, e2, hm⟩ := Option.bind_eq_some_iff.mp hm
  obtain ⟨⟨d3, h3⟩, e3, hm⟩ := Option.bind_eq_some_iff.mp hm
  obtain ⟨k, e4, hm⟩ := Option.bind_eq_some_iff.mp hm
  dsimp only at hm
  split at hm
  . split at hm
    . next q =>
      split at hm
      . next c =>
        cases hm
        refine hv ρ σ H hd0 ls _ d1 h1 hR hL e1 λ ρ1 H1 v1 x1 R1 r1 => ?_
        refine hd ρ1 σ H1 h1 ls _ _ h2 R1 (hL.ext hR x1) e2 λ ρ2 H2 v2 x2 R2 r2 => ?_
        refine hy ρ2 σ H2 h2 ls _ d3 _ R2 (hL.ext hR (x1.trans R1 x2)) e3 λ ρ3 H3 v3 x3 R3 r3 => ?_
        have r2 := r2.ext R2 x3
        simp only [RD] at r2
        obtain ⟨a, hn, rfl⟩ := r2
        obtain ⟨xs, l1, l2⟩ := R3.dic hn q
        have := keyD_rd r3 e4
        subst this
        obtain ⟨R4, x4⟩ := R3.put hn (o := .dic (putD _ k d1)) (ho := .dK (putK xs k v1)) ⟨_, rfl, l2.put ((r1.ext R1 x2).ext R2 x3)⟩
        have x13 := (x1.trans R1 x2).trans R2 x3
        exact ⟨a, _, rfl, DPut.k l1 (by rw [l2.len]; exact c), hQ ρ3 _ (x13.trans R3 x4) R4 σ ((hL.ext hR x13).ext R3 x4)⟩
      . cases hm
    . cases hm
  . cases hm
def mPairs : List (ME × ME) -> Ls -> Hd -> Option (List (Key × D) × Hd)
  | [], _, hd => some ([], hd)
  | (mk, mv) :: r, ls, hd => (mk ls hd).bind λ p => (mv ls p.2).bind λ q => (mPairs r ls q.2).bind λ z => (keyD p.1).map λ k => ((k, q.1) :: z.1, z.2)
def mergeD (kvs more : List (Key × D)) : List (Key × D) := more.foldl (λ acc kv => putD acc kv.1 kv.2) kvs
theorem RKs.merge : ∀ {more kvs : List (Key × D)} {ms xs : List (Key × V)}, RKs K ρ H more ms -> RKs K ρ H kvs xs -> RKs K ρ H (mergeD kvs more) (mergeK xs ms)
  | [], kvs, ms, xs, h, t => by simp only [RKs] at h; subst h; exact t
  | d :: ds, kvs, ms, xs, h, t => by
    simp only [RKs] at h
    obtain ⟨x, r, rfl, e, z, q⟩ := h
    show RKs K ρ H (mergeD (putD kvs d.1 d.2) ds) (mergeK (putK xs x.1 x.2) r)
    rw [e]
    exact q.merge (t.put z)
def RPs (K : PySem.W.Frag) : List (TE × TE) -> List (ME × ME) -> Prop
  | [], [] => True
  | t :: ts, m :: ms => RE K t.1 m.1 /\ RE K t.2 m.2 /\ RPs K ts ms
  | _, _ => False
theorem pairs_ok : ∀ {trs : List (TE × TE)} {ms : List (ME × ME)}, RPs K trs ms -> ∀ (ρ : List Addr) (σ : St) (H : Hp) (hd : Hd) (ls : Ls) (Q : List (V × V) -> Hp -> Prop) (kvs : List (Key × D)) (hd' : Hd), RH K ρ H hd -> RL K ρ H ls σ -> mPairs ms ls hd = some (kvs, hd') ->
    (∀ ρ' H' xs, Ext ρ H ρ' H' -> RH K ρ' H' hd' -> RKs K ρ' H' kvs xs -> Q (xs.map λ kv => (kV kv.1, kv.2)) H') -> tPairs trs σ H Q
  | [], [], _, ρ, σ, H, hd, ls, Q, kvs, hd', hR, hL, hm, hQ => by
    cases hm
    exact hQ ρ H [] .refl hR (by simp [RKs])
  | (tk, tv) :: ts, (mk, mv) :: ms, ⟨a, b, c⟩, ρ, σ, H, hd, ls, Q, kvs, hd', hR, hL, hm, hQ => by
    unfold mPairs at hm
    obtain ⟨⟨d1, h1⟩, e1, hm⟩ := Option.bind_eq_some_iff.mp hm
    obtain ⟨⟨d2, h2⟩, e2, hm⟩ := Option.bind_eq_some_iff.mp hm
    obtain ⟨⟨d3, h3⟩, e3, hm⟩ := Option.bind_eq_some_iff.mp hm
    obtain ⟨k, e4, e5⟩ := Option.map_eq_some_iff.mp hm
    cases e5
    unfold tPairs
    refine a ρ σ H hd ls _ d1 h1 hR hL e1 λ ρ1 H1 v1 x1 R1 r1 => ?_
    refine b ρ1 σ H1 h1 ls _ d2 h2 R1 (hL.ext hR x1) e2 λ ρ2 H2 v2 x2 R2 r2 => ?_
    refine pairs_ok c ρ2 σ H2 h2 ls _ d3 _ R2 (hL.ext hR (x1.trans R1 x2)) e3 λ ρ3 H3 xs x3 R3 r3 => ?_
    have := keyD_rd r1 e4
    subst this
    exact hQ ρ3 H3 ((k, v2) :: xs) ((x1.trans R1 x2).trans R2 x3) R3 (by simp only [RKs]; exact ⟨_, _, rfl, rfl, r2.ext R2 x3, r3⟩)
  | [], _ :: _, h, _, _, _, _, _, _, _, _, _, _, _, _ => h.elim
  | _ :: _, [], h, _, _, _, _, _, _, _, _, _, _, _, _ => h.elim
def mDisp (ms : List (ME × ME)) : ME := λ ls hd => (mPairs ms ls hd).bind λ p => if p.1.length <= 15 then some (.mu p.2.length, p.2 ++ [.dic (mergeD [] p.1)]) else none
theorem RH.nameD (hR : RH K ρ H hd) {a : Addr} {xs : List (Key × V)} {kvs : List (Key × D)} (out : a ∉ ρ) {o : HO} (e : H a = some o) (ht : ∀ ys, o ≠ .tup ys) (hf : ∀ x u, o ≠ .frz x u) (r : RKs K ρ H kvs xs) (h1 : ∀ ps, o ≠ .tbl ps := by intro _ z; cases z) (h2 : ∀ φ, o ≠ .ext φ := by intro _ z; cases z) : RH K (ρ ++ [a]) (upd H a (.dK xs)) (hd ++ [.dic kvs]) := by
  have gr : Grow H (upd H a (.dK xs)) := Grow.refl.put ⟨λ ys z => ht ys (by rw [e] at z; exact Option.some.inj z), λ x u z => hf x u (by rw [e] at z; exact Option.some.inj z)⟩
  refine ⟨by simp [hR.len], ?_, hR.tabs.upd (λ ps z => h1 ps (Option.some.inj (e.symm.trans z))) (λ ps z => h2 ps (Option.some.inj (e.symm.trans z))), λ n o' b e1 e2 => ?_⟩
  . rw [List.nodup_append]
    refine ⟨hR.nd, by simp, λ x hx y hy z => ?_⟩
    simp at hy; subst hy; subst z; exact out hx
  . by_cases hn : n < ρ.length
    . rw [List.getElem?_append_left hn] at e2
      rw [List.getElem?_append_left (by rw [<- hR.len]; exact hn)] at e1
      obtain ⟨ho', q1, q2⟩ := hR.ob n o' b e1 e2
      have : b ≠ a := λ z => out (by rw [<- z]; exact List.mem_of_getElem? e2)
      exact ⟨ho', by rw [upd_ne this]; exact q1, q2.mono gr [a]⟩
    . have hn' : n = ρ.length := by
        have := (List.getElem?_eq_some_iff.mp e2).1
        simp at this; omega
      subst hn'
      simp at e2
      rw [hR.len] at e1
      simp at e1
      subst e1; subst e2
      exact ⟨_, upd_same, ⟨xs, rfl, r.mono gr [_]⟩⟩
theorem re_disp {trs : List (TE × TE)} {ms : List (ME × ME)} (h : RPs K trs ms) : RE K (tDisp trs) (mDisp ms) := by
  intro ρ σ H hd ls Q d hd' hR hL hm hQ
  obtain ⟨⟨kvs, h1⟩, e1, hm⟩ := Option.bind_eq_some_iff.mp hm
  dsimp only at hm
  split at hm
  . next c =>
    cases hm
    intro p hp
    obtain ⟨R0, x0⟩ := hR.hid (ho := .dK []) hp
    refine pairs_ok h ρ σ _ hd ls _ kvs h1 R0 (hL.ext hR x0) e1 λ ρ1 H1 xs x1 R1 r1 => ?_
    have hp1 : H1 p = some (.dK []) := x1.keep p _ upd_same (hR.out hp) nt
    have op : p ∉ ρ1 := by
      obtain ⟨r, rfl, fr⟩ := x1.pre
      intro z
      rcases List.mem_append.mp z with z | z
      . exact hR.out hp z
      . have := fr _ z
        rw [upd_same] at this; cases this
    refine ⟨hp1, xs, rfl, by rw [r1.len]; exact c, ?_⟩
    have mm : RKs K ρ1 H1 (mergeD [] kvs) (mergeK [] xs) := r1.merge (by simp [RKs])
    have R2 := R1.nameD op hp1 (λ _ z => by cases z) (λ _ _ z => by cases z) mm
    have x01 := x0.trans R0 x1
    refine hQ (ρ1 ++ [p]) _ _ ?_ R2 ?_
    . obtain ⟨r, er, fr⟩ := x01.pre
      refine ⟨⟨r ++ [p], by rw [er]; simp, λ b m => ?_⟩, λ b o q nb t => ?_, λ b ps q => ?_⟩
      . rcases List.mem_append.mp m with m | m
        . exact fr b m
        . simp at m; subst m; exact hp
      . have : b ≠ p := ne_of_none q hp
        rw [upd_ne this]; exact x01.keep b o q nb t
      . have : b ≠ p := ne_of_none q hp
        rw [upd_ne this]; exact x01.tab b ps q
    . simp only [RD]
      exact ⟨p, by rw [<- R1.len]; simp, rfl⟩
  . cases hm
def mLPut (mo mi mv : ME) : MS := λ ls hd => (mv ls hd).bind λ p => (mo ls p.2).bind λ q => (mi ls q.2).bind λ r => match q.1, r.1 with
  | .mu n, .im (.int i) => match r.2[n]? with
    | some (.lst ds) => (ixN ds.length i).map λ j => (.nx ls, r.2.set n (.lst (ds.set j p.1)))
    | _ => none
  | _, _ => none
def mAug (i : Nat) (g : Int -> Int -> Int) (m : ME) : MS := λ ls hd => match ls[i]? with
  | some (some (.im (.int x))) => (m ls hd).bind λ p => match p.1 with
    | .im (.int y) => some (.nx (ls.set i (some (.im (.int (g x y))))), p.2)
    | _ => none
  | _ => none
theorem rs_aug {i : Nat} {g : Int -> Int -> Int} {t : TE} {m : ME} (h : RE K t m) : RS K (tAug i t (ipI g)) (mAug i g m) := by
  intro ρ σ H hd0 ls E f hd' hR hL hm hQ
  unfold mAug at hm
  split at hm
  . next x e0 =>
    obtain ⟨⟨d1, h1⟩, e1, hm⟩ := Option.bind_eq_some_iff.mp hm
    dsimp only at hm
    split at hm
    . cases hm
      obtain ⟨v, v1, v2⟩ := hL.ob i _ e0
      simp only [RD, RI] at v2
      subst v2
      refine ⟨_, v1, h ρ σ H hd0 ls _ _ _ hR hL e1 λ ρ1 H1 w x1 R1 r1 => ?_⟩
      simp only [RD, RI] at r1
      subst r1
      exact ⟨_, _, rfl, rfl, hQ ρ1 H1 x1 R1 _ ((hL.ext hR x1).set i (by simp [RD, RI]))⟩
    . cases hm
  . cases hm
end
end L2
namespace L2
open PySem PySem.Spec PyProof.Rows
structure QG (K : PySem.W.Frag) (X : Cx) (e : Expr) (t : TG) (m : MG) : Prop where
  p : PG X e t
  r : RGt K t m
structure QGs (K : PySem.W.Frag) (X : Cx) (e : List Expr) (t : TGs) (m : MGs) : Prop where
  p : PGs X e t
  r : RGts K t m
structure QI (K : PySem.W.Frag) (X : Cx) (tg e : Expr) (t : TI) (m : MI) : Prop where
  p : PI X tg e t
  r : RIt K t m
structure QF (K : PySem.W.Frag) (X : Cx) (e : List Expr) (t : TT) (m : MT) : Prop where
  p : PF X e t
  r : RT K t m
structure QO (K : PySem.W.Frag) (X : Cx) (e : Option Expr) (t : TO) (m : MO1) : Prop where
  p : PO X e t
  r : RO1 K t m
structure QPs (K : PySem.W.Frag) (X : Cx) (pos : Pos) (keys : List (Option Expr)) (values : List Expr) (t : List (TE × TE)) (m : List (ME × ME)) : Prop where
  p : PPs X pos keys values t
  r : RPs K t m
def catOk (a b : List D) : Prop := a ≠ [] /\ fits (a.length + b.length)
open Classical in
noncomputable def gCatT : D -> D -> Hd -> Option (D × Hd) := λ d e hd => (tupView d).bind λ a => (tupView e).bind λ b => if catOk a b then some (mkTup (a ++ b), hd) else none
theorem rb_catT {K : PySem.W.Frag} : RB K (rCatT K) gCatT := by
  intro ρ H hd d e v u Q z hd' hR h1 h2 hf hQ
  unfold gCatT at hf
  obtain ⟨a, e1, hf⟩ := Option.bind_eq_some_iff.mp hf
  obtain ⟨b, e2, hf⟩ := Option.bind_eq_some_iff.mp hf
  split at hf
  . next c =>
    cases hf
    obtain ⟨p, xs, rfl, q1, r1⟩ := h1.tup e1
    obtain ⟨p2, ys, rfl, q2, r2⟩ := h2.tup e2
    have l1 := r1.len; have l2 := r2.len
    refine ⟨p, p2, xs, ys, rfl, rfl, q1, q2, λ z => c.1 (by rw [z] at l1; simpa using l1.symm), by rw [l1, l2]; exact c.2, λ z => ?_, λ _ p3 hp => ?_⟩
    . have : b = [] := by rw [z] at l2; simpa using l2.symm
      subst this
      exact hQ ρ H _ .refl hR (by rw [List.append_nil]; exact rd_mkTup q1 r1)
    . obtain ⟨R2, x2⟩ := hR.hid (ho := .tup (xs ++ ys)) hp
      exact hQ ρ _ _ x2 R2 (rd_mkTup (SqT.of upd_same) ((r1.app r2).ext hR x2))
  . cases hf
noncomputable abbrev gAddA := fElse gAdd gCatT
def mIsN (neg : Bool) (m : ME) : ME := λ ls hd => (m ls hd).bind λ p => some (.im (.bl (match p.1 with
  | .im .non => !neg
  | _ => neg)), p.2)
theorem nonD {K : PySem.W.Frag} {ρ : List Addr} {H : Hp} {d : D} {v : V} (h : RD K ρ H d v) : decide (v = .non) = (match d with | .im .non => true | _ => false) := by
  cases d with
  | im i =>
    cases i with
    | non => simp only [RD, RI] at h; subst h; rfl
    | tup is => simp only [RD, RI] at h; obtain ⟨a, xs, rfl, _⟩ := h; rfl
    | _ => simp only [RD, RI] at h; subst h; rfl
  | mu n => simp only [RD] at h; obtain ⟨a, _, rfl⟩ := h; rfl
  | tm ds => simp only [RD] at h; obtain ⟨a, xs, rfl, _⟩ := h; rfl
  | ro ns => simp only [RD] at h; obtain ⟨a, rfl, _⟩ := h; rfl
theorem re_isN {K : PySem.W.Frag} {t : TE} {m : ME} (h : RE K t m) : RE K (tIsN t) (mIsN false m) := by
  intro ρ σ H hd ls Q d hd' hR hL hm hQ
  obtain ⟨⟨d1, h1⟩, e1, hm⟩ := Option.bind_eq_some_iff.mp hm
  cases hm
  refine h ρ σ H hd ls _ d1 _ hR hL e1 λ ρ1 H1 v x1 R1 r1 => ?_
  rw [nonD r1]
  refine hQ ρ1 H1 _ x1 R1 ?_
  simp only [RD, RI]
  cases d1 with
  | im i => cases i <;> rfl
  | _ => rfl
theorem re_notN {K : PySem.W.Frag} {t : TE} {m : ME} (h : RE K t m) : RE K (tNotN t) (mIsN true m) := by
  intro ρ σ H hd ls Q d hd' hR hL hm hQ
  obtain ⟨⟨d1, h1⟩, e1, hm⟩ := Option.bind_eq_some_iff.mp hm
  cases hm
  refine h ρ σ H hd ls _ d1 _ hR hL e1 λ ρ1 H1 v x1 R1 r1 => ?_
  rw [nonD r1]
  refine hQ ρ1 H1 _ x1 R1 ?_
  simp only [RD, RI]
  cases d1 with
  | im i => cases i <;> rfl
  | _ => rfl
def mNeg (m : ME) : ME := λ ls hd => (m ls hd).bind λ p => match p.1 with
  | .im (.int i) => some (.im (.int (-i)), p.2)
  | _ => none
theorem re_neg {K : PySem.W.Frag} {t : TE} {m : ME} (h : RE K t m) : RE K (tUn (rU λ i => .int (-i)) t) (mNeg m) := by
  intro ρ σ H hd ls Q d hd' hR hL hm hQ
  obtain ⟨⟨d1, h1⟩, e1, hm⟩ := Option.bind_eq_some_iff.mp hm
  dsimp only at hm
  split at hm
  . cases hm
    exact h ρ σ H hd ls _ _ _ hR hL e1 λ ρ1 H1 v x1 R1 r1 => ⟨_, by simpa only [RD, RI] using r1, hQ ρ1 H1 _ x1 R1 (by simp [RD, RI])⟩
  . cases hm
def mYes : MT := λ _ hd => some (true, hd)
theorem rt_yes {K : PySem.W.Frag} : RT K tYes mYes := by
  intro ρ σ H hd ls Q d hd' hR hL hm hQ
  cases hm
  exact hQ ρ H .refl hR
section
variable (K : PySem.W.Frag) {X : Cx} {a b c e : Expr} {es : List Expr} {ta tb tc te : TE} {ma mb mc me : ME} {tA tB' : TT} {nA nB : MT} {t : TA} {m : MA} {pos : Pos} {x : Str}
theorem qv (i : Nat) {x : Str} {pos : Pos} (hN : X.N[i]? = some x := by rfl) (hv : Vis X.env.scope x := by first | exact Or.inl rfl | exact Or.inr (Or.inl rfl) | exact Or.inr (Or.inr rfl)) (hd : (x == ("__debug__" : Str)) = false := by decide)
    (hcd : (x == ("__classdict__" : Str)) = false := by decide) : QE K X (.Name x pos) (tVar i) (mVar i) := ⟨pe_var hN hv hd hcd, re_var⟩
theorem qe_int {i : Int} {j pos} : QE K X (.Constant (.int i) j pos) (tC (.int i)) (mC (.int i)) := ⟨pe_int, re_c λ _ => by simp [RI]⟩
theorem qe_bl {i : Bool} {j pos} : QE K X (.Constant (.bool i) j pos) (tC (.bl i)) (mC (.bl i)) := ⟨pe_bl, re_c λ _ => by simp [RI]⟩
theorem qe_non {j pos} : QE K X (.Constant .none j pos) (tC .non) (mC .non) := ⟨pe_non, re_c λ _ => by simp [RI]⟩
theorem qe_str {x : Str} {j pos} : QE K X (.Constant (.str x) j pos) (tC (.str x)) (mC (.str x)) := ⟨pe_str, re_c λ _ => by simp [RI]⟩
theorem qe_op {op : Operator} {r : R2} {f : D -> D -> Hd -> Option (D × Hd)} (ho : OpR X (binaryOp op) r) (hr : RB K r f) (ha : QE K X a ta ma) (hb : QE K X b tb mb) : QE K X (.BinOp a op b pos) (tOp r ta tb) (mOp f ma mb) := ⟨pe_op ho ha.p hb.p, re_op hr ha.r hb.r⟩
theorem qe_neg (ha : QE K X a ta ma) : QE K X (.UnaryOp .USub a pos) (tUn (rU λ i => .int (-i)) ta) (mNeg ma) := ⟨pe_un un_neg ha.p, re_neg ha.r⟩
theorem qe_cmp {op : CmpOp} {r : R2} {f : D -> D -> Hd -> Option (D × Hd)} (ho : OpR X (compareOp op) r) (hr : RB K r f) (ha : QE K X a ta ma) (hb : QE K X b tb mb) (hm : behindInMarks op b = false := by first | exact nomark _ | rfl) : QE K X (.Compare a [op] [b] pos) (tOp r ta tb) (mOp f ma mb) := ⟨pe_cmpR ho ha.p hb.p hm, re_op hr ha.r hb.r⟩
theorem qt_cmp {op : CmpOp} {r : R2} {f : D -> D -> Hd -> Option (D × Hd)} (ho : OpR X (compareOp op) r) (hr : RB K r f) (ha : QE K X a ta ma) (hb : QE K X b tb mb) (hm : behindInMarks op b = false := by first | exact nomark _ | rfl) : QT K X (.Compare a [op] [b] pos) (tTest (tOp r ta tb)) (mTest (mOp f ma mb)) := ⟨pt_cmpR ho ha.p hb.p hm, rt_test (re_op hr ha.r hb.r)⟩
theorem qe_isN {j pos'} (ha : QE K X a ta ma) : QE K X (.Compare a [.Is] [.Constant .none j pos'] pos) (tIsN ta) (mIsN false ma) := ⟨pe_cmp (pc_isN ha.p), re_isN ha.r⟩
theorem qe_notN {j pos'} (ha : QE K X a ta ma) : QE K X (.Compare a [.IsNot] [.Constant .none j pos'] pos) (tNotN ta) (mIsN true ma) := ⟨pe_cmp (pc_notN ha.p), re_notN ha.r⟩
theorem qt_isN {j pos'} (ha : QE K X a ta ma) : QT K X (.Compare a [.Is] [.Constant .none j pos'] pos) (tB (tIsN ta)) (mTest (mIsN false ma)) := ⟨pt_cmp (pc_isN ha.p), rt_B (re_isN ha.r)⟩
theorem qt_truth (ha : QE K X a ta ma) (he : ∀ whole, isTrue a X.env whole = (do let v <- whole; standAt a.pos; holding [v] (truthy v)) := by intro _; rfl) (hK : X.K = K := by rfl) :
    QT K X a (λ σ H Q => ta σ H λ x H' => ∃ k, TruV K x H' k /\ Q k H') (mTru ma) := by
  subst hK
  exact ⟨pt_truth ha.p he, rt_truth ha.r⟩
theorem qt_not (ha : QT K X a tA nA) : QT K X (.UnaryOp .Not a pos) (tNot tA) (mNot nA) := ⟨pt_not ha.p, rt_not ha.r⟩
theorem qw_and1 (ha : QT K X a tA nA) : QW K X (.BoolOp .And [a] pos) tA nA := ⟨pw_and1 ha.p, ha.r⟩
theorem qw_or1 (ha : QT K X a tA nA) : QW K X (.BoolOp .Or [a] pos) tA nA := ⟨pw_or1 ha.p, ha.r⟩
theorem qw_and {rest : List Expr} (ha : QT K X a tA nA) (hb : QW K X (.BoolOp .And (b :: rest) pos) tB' nB) : QW K X (.BoolOp .And (a :: b :: rest) pos) (tAnd tA tB') (mAnd nA nB) := ⟨pw_and ha.p hb.p, rt_and ha.r hb.r⟩
theorem qw_or {rest : List Expr} (ha : QT K X a tA nA) (hb : QW K X (.BoolOp .Or (b :: rest) pos) tB' nB) : QW K X (.BoolOp .Or (a :: b :: rest) pos) (tOr tA tB') (mOr nA nB) := ⟨pw_or ha.p hb.p, rt_or ha.r hb.r⟩
theorem QW.toT {K : PySem.W.Frag} {X : Cx} {e : Expr} {t : TT} {m : MT} (h : QW K X e t m) : QT K X e t m := ⟨h.p.pt, h.r⟩
theorem qe_one {op} (ha : QE K X a ta ma) : QE K X (.BoolOp op [a] pos) ta ma := ⟨pe_one ha.p, ha.r⟩
theorem qe_and {rest : List Expr} (ha : QE K X a ta ma) (hb : QE K X (.BoolOp .And (b :: rest) pos) tb mb) : QE K X (.BoolOp .And (a :: b :: rest) pos) (tAndV ta tb) (mAndV ma mb) := ⟨pe_and ha.p hb.p, re_andV ha.r hb.r⟩
theorem qe_or {rest : List Expr} (ha : QE K X a ta ma) (hb : QE K X (.BoolOp .Or (b :: rest) pos) tb mb) : QE K X (.BoolOp .Or (a :: b :: rest) pos) (tOrV ta tb) (mOrV ma mb) := ⟨pe_or ha.p hb.p, re_orV ha.r hb.r⟩
theorem qe_ifExp (hc : QT K X c tA nA) (ha : QE K X a ta ma) (hb : QE K X b tb mb) : QE K X (.IfExp c a b pos) (tIf tA ta tb) (mIf nA ma mb) := ⟨pe_ifExp hc.p ha.p hb.p, re_if hc.r ha.r hb.r⟩
theorem qa_nil : QA K X [] tNil mNil := ⟨pa_nil, ra_nil⟩
theorem qa_cons (ha : QE K X e te me) (hr : QA K X es t m) (hs : starEach (e :: es) X.env = (false, eval e X.env) :: starEach es X.env := by rfl) : QA K X (e :: es) (tCons te t) (mCons me m) := ⟨pa_cons ha.p hr.p hs, ra_cons ha.r hr.r⟩
theorem qe_tup {x1} (h : QA K X es t m) : QE K X (.Tuple es x1 pos) (tTup t) (mTup m) := ⟨pe_tup h.p, re_tup h.r⟩
theorem qn_lst (h : QA K X es t m) : QN K X (.List es pos) (tLst t) (mLst m) := ⟨pe_lst h.p, rn_lst h.r⟩
theorem qe_new (h : QN K X e te m) : QE K X e te (mNew m) := ⟨h.p, re_new h.r⟩
theorem qe_ix (ha : QE K X a ta ma) (hb : QE K X b tb mb) (hs : PlainIx b := by exact λ _ _ => rfl) (hK : X.K = K := by rfl) : QE K X (.Subscript a b pos) (tOp (rIxLT K) ta tb) (mOp gIx ma mb) := ⟨pe_ix ((ix_listK K hK).or (ix_tupK K hK)) ha.p hb.p hs, re_op rb_ix ha.r hb.r⟩
theorem qe_dget (hu : X.A.units + 1 < cLine) (ha : QE K X a ta ma) (hb : QE K X b tb mb) (hs : NoSl b := by exact λ _ _ => rfl) : QE K X (.Subscript a b pos) (tDGet ta tb) (mOp gDGet ma mb) := ⟨pe_dget hu ha.p hb.p hs, re_dget ha.r hb.r⟩
theorem qo_none : QO K X none tNoPart mNoPart := ⟨po_none, ro_none⟩
theorem qo_some (h : QE K X e te me) : QO K X (some e) (tPart te) (mPart me) := ⟨po_some h.p, ro_some h.r⟩
theorem qn_slL {lo hi : Option Expr} {tl th : TO} {ml mh : MO1} {p2 : Pos} (h : QE K X e te me) (hl : QO K X lo tl ml) (hh : QO K X hi th mh) (hK : X.K = K := by rfl) : QN K X (.Subscript e (.Slice lo hi none p2) pos) (tSl (rSlL K) te tl th) (mSlL me ml mh) := ⟨pe_slice (sl_listK K hK) h.p hl.p hh.p, rn_slL h.r hl.r hh.r⟩
theorem qe_cb {id : String} {p : Pos} {r : List V -> Hp -> VK -> Prop} {f : List D -> Hd -> Option (D × Hd)} (hc : CallR X (.builtin id) r) (hr : RF K r f) (hm : X.mg x = none) (hv : bootBuiltins x = some (.builtin id)) (ha : QA K X (e :: es) t m) (hg : Gl X x := by rfl) (hn : x ≠ "__name__" := by decide) (hdb : (x == ("__debug__" : Str)) = false := by decide)
    (he : starEach (e :: es) X.env = (false, eval e X.env) :: starEach es X.env := by rfl) (hpl : (backTo pos (starEach es X.env)).any (·.1) = false := by rfl) : QE K X (.Call (.Name x p) (e :: es) [] pos) (tCB r t) (mCB f m) := ⟨pe_callB hc hg hm hv ha.p hn hdb he hpl, re_cb hr ha.r⟩
theorem qe_ct {id : String} {p : Pos} {r : List V -> Hp -> VK -> Prop} {f : List D -> Hd -> Option (D × Hd)} (hc : CallR X (.type id) r) (hr : RF K r f) (hm : X.mg x = none) (hv : bootBuiltins x = some (.type id)) (ha : QA K X (e :: es) t m) (hg : Gl X x := by rfl) (hn : x ≠ "__name__" := by decide) (hdb : (x == ("__debug__" : Str)) = false := by decide)
    (he : starEach (e :: es) X.env = (false, eval e X.env) :: starEach es X.env := by rfl) (hpl : (backTo pos (starEach es X.env)).any (·.1) = false := by rfl) : QE K X (.Call (.Name x p) (e :: es) [] pos) (tCB r t) (mCB f m) := ⟨pe_callTy hc hg hm hv ha.p hn hdb he hpl, re_cb hr ha.r⟩
theorem qe_hb {id : String} {p : Pos} {r : List V -> Hp -> VK -> Prop} {tp : Bool} {g : List D -> Option D} (hc : CallR X (.builtin id) r) (hr : RG K tp r g) (hm : X.mg x = none) (hv : bootBuiltins x = some (.builtin id)) (ha : QN K X e te m) (hg : Gl X x := by rfl) (hn : x ≠ "__name__" := by decide) (hdb : (x == ("__debug__" : Str)) = false := by decide)
    (he : starEach [e] X.env = [(false, eval e X.env)] := by rfl) : QE K X (.Call (.Name x p) [e] [] pos) (tCB r (tCons te tNil)) (mHid g m) := ⟨pe_callB hc hg hm hv (pa_cons ha.p pa_nil he) hn hdb he rfl, re_hid hr ha.r⟩
theorem qe_ht {id : String} {p : Pos} {r : List V -> Hp -> VK -> Prop} {tp : Bool} {g : List D -> Option D} (hc : CallR X (.type id) r) (hr : RG K tp r g) (hm : X.mg x = none) (hv : bootBuiltins x = some (.type id)) (ha : QN K X e te m) (hg : Gl X x := by rfl) (hn : x ≠ "__name__" := by decide) (hdb : (x == ("__debug__" : Str)) = false := by decide)
    (he : starEach [e] X.env = [(false, eval e X.env)] := by rfl) : QE K X (.Call (.Name x p) [e] [] pos) (tCB r (tCons te tNil)) (mHid g m) := ⟨pe_callTy hc hg hm hv (pa_cons ha.p pa_nil he) hn hdb he rfl, re_hid hr ha.r⟩
theorem qn_listH {p : Pos} (hm : X.mg "list" = none) (ha : QN K X e te m) (hg : Gl X "list" := by rfl) (he : starEach [e] X.env = [(false, eval e X.env)] := by rfl) (hK : X.K = K := by rfl) : QN K X (.Call (.Name "list" p) [e] [] pos) (tCB (rListOf K) (tCons te tNil)) (mListH m) := ⟨pe_callTy (call_listK K hK) hg hm bt_list (pa_cons ha.p pa_nil he) (by decide) (by decide) he rfl, rn_listH ha.r⟩
theorem qe_mt {id : String} {r : V -> List V -> Hp -> VK -> Prop} {f : D -> List D -> Hd -> Option (D × Hd)} {name : Str} {apos cpos : Pos} {o : Expr} {to : TE} {mo : ME} (slot : Slot "list" name id) (hty : typeOf (.builtin id) = pure (.type "method_descriptor")) (hm : MtM X id r) (hr : RM K r f) (ho : QE K X o to mo) (ha : QA K X (e :: es) t m)
    (hbase : attributeBase o name X.env (eval o X.env) = eval o X.env := by rfl)
    (hfew : ((backTo cpos (starEach (e :: es) X.env)).all (λ x => !x.1) && (backToKw cpos (keywordEach [] X.env)).all (λ x => x.1.isSome)
      && decide ((e :: es).length + ([] : List Keyword).length + (if ([] : List Keyword).isEmpty then 0 else 1) < 30)) = true := by rfl)
    (hline : (apos.endLine == cpos.line) = true := by rfl) (hs : starEach (e :: es) X.env = (false, eval e X.env) :: starEach es X.env := by rfl) (hplain : (backTo cpos (starEach es X.env)).any (·.1) = false := by rfl) (hK : X.K = K := by rfl) :
    QE K X (.Call (.Attribute o name apos) (e :: es) [] cpos) (tBM K "list" r to t) (mMt f mo m) := by
  subst hK
  exact ⟨pe_bm PySem.F.plainAttrs_list slot hty hm ho.p ha.p hbase hfew hline hs hplain, re_mt hr ho.r ha.r⟩
theorem qe_callW (w : Nat) {j k : Nat} {f : Addr} {fd : FuncData} {ps : List Str} {n : Nat} {F : List D -> Hd -> Option (D × Hd)} {st : Stmt} {p : Pos} (G : FnOk X.prog X.w X.K X.mg X.base CX0 j f fd ps (spF K n F)) (hr : Room k X.A) (DA : DefAt X.K X.mg x st f fd ps) (ha : QA K X (e :: es) t m) (hF : ∀ ds hd z, F ds hd = some z -> ds.length = n)
    (hjk : j <= k := by decide) (hg : Gl X x := by rfl) (hdb : (x == ("__debug__" : Str)) = false := by decide) (he : starEach (e :: es) X.env = (false, eval e X.env) :: starEach es X.env := by rfl) (hpl : (backTo pos (starEach es X.env)).any (·.1) = false := by rfl) :
    QE K X (.Call (.Name x p) (e :: es) [] pos) (tCall (spF K n F) [] E0 t) (mCallW w F m) := ⟨pcall G hr DA ha.p hjk hg hdb he hpl, re_callW ha.r hF⟩
theorem qe_callG {j k : Nat} {f : Addr} {fd : FuncData} {ps : List Str} {n : Nat} {F : List D -> Hd -> Option (D × Hd)} {st : Stmt} {p : Pos} (G : FnOk X.prog X.w X.K X.mg X.base CX0 j f fd ps (spF K n F)) (hr : Room k X.A) (DA : DefAt X.K X.mg x st f fd ps) (ha : QA K X (e :: es) t m) (hF : ∀ ds hd z, F ds hd = some z -> ds.length = n)
    (hjk : j <= k := by decide) (hg : Gl X x := by rfl) (hdb : (x == ("__debug__" : Str)) = false := by decide) (he : starEach (e :: es) X.env = (false, eval e X.env) :: starEach es X.env := by rfl) (hpl : (backTo pos (starEach es X.env)).any (·.1) = false := by rfl) :
    QE K X (.Call (.Name x p) (e :: es) [] pos) (tCall (spF K n F) [] E0 t) (mCallG F m) := ⟨pcall G hr DA ha.p hjk hg hdb he hpl, re_callG ha.r hF⟩
theorem qps_nil {pos : Pos} : QPs K X pos [] [] [] [] := ⟨pps_nil, trivial⟩
theorem qps_cons {pos : Pos} {k v : Expr} {ks : List (Option Expr)} {vs : List Expr} {tk tv : TE} {mk mv : ME} {trs : List (TE × TE)} {ms : List (ME × ME)} (hk : QE K X k tk mk) (hv : QE K X v tv mv) (hr : QPs K X pos ks vs trs ms) : QPs K X pos (some k :: ks) (v :: vs) ((tk, tv) :: trs) ((mk, mv) :: ms) := ⟨pps_cons hk.p hv.p hr.p, hk.r, hv.r, hr.r⟩
theorem qe_disp {pos : Pos} {keys : List (Option Expr)} {values : List Expr} {trs : List (TE × TE)} {ms : List (ME × ME)} (h : QPs K X pos keys values trs ms) (hall : keys.all (·.isSome) = true := by rfl) (hl : keys.length = values.length := by rfl) (h0 : keys ≠ [] := by simp)
    (h15 : keys.length <= 15 := by decide) : QE K X (.Dict keys values pos) (tDisp trs) (mDisp ms) := ⟨pe_disp h.p hall hl h0 h15, re_disp h.r⟩
theorem qg_name {i : Nat} (hN : X.N.Nodup) (hi : X.N[i]? = some x) (hx : Loc X.env.scope x) (hf : X.fn x = true ∨ X.env.scope.names.lookup x = some .local := by first | exact .inl rfl | exact .inr rfl | assumption) : QG K X (.Name x pos) (gName i) (nName i) := ⟨pg_name hN hi hx hf, rg_name⟩
theorem qgs_nil : QGs K X [] gNil nNil := ⟨pgs_nil, rgs_nil⟩
theorem qgs_cons {tg : TG} {tgs : TGs} {n : MG} {ns : MGs} (h1 : QG K X e tg n) (h2 : QGs K X es tgs ns) (hs : (assignEach (e :: es) X.env).map (·.2) = assign e X.env :: (assignEach es X.env).map (·.2) := by rfl) : QGs K X (e :: es) (gCons tg tgs) (nCons n ns) := ⟨pgs_cons h1.p h2.p hs, rgs_cons h1.r h2.r⟩
theorem qg_tup {k n : Nat} {tgs : TGs} {ns : MGs} (hc : X.calm = true) (h : QGs K X es tgs ns) (hK : X.K = K := by rfl) (hn : (assignEach es X.env).length = n := by rfl) (hst : (assignEach es X.env).findIdx? (·.1) = none := by rfl) : QG K X (.Tuple es k pos) (gTup K n tgs) (nTup n ns) := ⟨pg_tupK K hc h.p hK hn hst, rg_tup h.r⟩
theorem qi_tup {tg : Expr} (h : QE K X e te me) (hK : X.K = K := by rfl) : QI K X tg e (iTup K te) (mItT me) := ⟨pi_tupK K h.p hK, ri_tup h.r⟩
theorem qi_list {tg : Expr} (h : QE K X e te me) (hK : X.K = K := by rfl) : QI K X tg e (iList K te) (mItL me) := ⟨pi_listK K h.p hK, ri_list h.r⟩
theorem qi_hid {tg : Expr} (h : QN K X e te m) (hK : X.K = K := by rfl) : QI K X tg e (iList K te) (mItH m) := ⟨pi_listK K h.p hK, ri_hid h.r⟩
theorem qi_rng1 {tg : Expr} {p : Pos} (hm : X.mg "range" = none) (ha : QA K X [a] t m) (hg : Gl X "range" := by rfl) (hs : starEach [a] X.env = [(false, eval a X.env)] := by rfl) : QI K X tg (.Call (.Name "range" p) [a] [] pos) (iRng1 t) (mItR m) := ⟨pi_range1 hg hm ha.p hs, ri_rng1 ha.r⟩
theorem qf_nil : QF K X [] tYes mYes := ⟨pf_nil, rt_yes⟩
theorem qf_one (h : QT K X c tA nA) : QF K X [c] tA nA := ⟨pf_one h.p, h.r⟩
theorem qn_comp {elt tg iter : Expr} {ifs : List Expr} {scope : Scope} {loc fr : List Str} {ix : List Nat} {wi : TI} {g : TG} {tf : TT} {te : TE} {mi : MI} {n : MG} {mf : MT} {mm : ME} (hc : X.calm = true) (S : CSc X scope fr ix) (hi : QI K X tg iter wi mi)
    (hg : ∀ s H ex, QG K (cCx X (loc ++ fr) scope s H ex) tg g n) (hf : ∀ s H ex, QF K (cCx X (loc ++ fr) scope s H ex) ifs tf mf) (he : ∀ s H ex, QE K (cCx X (loc ++ fr) scope s H ex) elt te mm)
    (hs : ∀ x, foldedSetIterable iter X.env x = pure x := by intro _; rfl) : QN K X (.ListComp elt [⟨tg, iter, ifs, 0⟩] scope pos) (tComp loc.length ix wi g tf te) (mComp loc.length ix mi n mf mm) :=
  ⟨pe_comp hc S hi.p (λ s H ex => (hg s H ex).p) (λ s H ex => (hf s H ex).p) (λ s H ex => (he s H ex).p) hs, rn_comp hi.r (hg X.s₀ X.H₀ []).r (hf X.s₀ X.H₀ []).r (he X.s₀ X.H₀ []).r⟩
theorem qss_nil : QSs K X [] tNext mNext := ⟨pss_nil, rs_next⟩
theorem qss_cons {st : Stmt} {rest : List Stmt} {u v : TS} {m1 m2 : MS} (h1 : QS K X st u m1) (h2 : QSs K X rest v m2) : QSs K X (st :: rest) (tSeq u v) (mSeq m1 m2) := ⟨pss_cons h1.p h2.p, rs_seq h1.r h2.r⟩
theorem qss_one {st : Stmt} {u : TS} {m1 : MS} (h1 : QS K X st u m1) : QSs K X [st] u m1 := ⟨pss_one h1.p, h1.r⟩
theorem qs_expr (he : QE K X e te me) (hs : swapsWith e none pos.line X.env = pure false := by rfl) : QS K X (.Expr e pos) (tDrop te) (mDrop me) := ⟨ps_expr he.p hs, rs_drop he.r⟩
theorem qs_ret (he : QE K X e te me) : QS K X (.Return (some e) pos) (tRet te) (mRet me) := ⟨ps_ret he.p, rs_ret he.r⟩
theorem qs_if {a b : List Stmt} {u v : TS} {m1 m2 : MS} (hc : QT K X c tA nA) (ha : QSs K X a u m1) (hb : QSs K X b v m2) : QS K X (.If c a b pos) (tIfS tA u v) (mIfS nA m1 m2) := ⟨ps_if hc.p ha.p hb.p, rs_if hc.r ha.r hb.r⟩
theorem qs_never {st : Stmt} : QS K X st tNever mNever := ⟨ps_never, rs_never⟩
theorem qs_asg {tg : Expr} {g : TG} {n : MG} (he : QE K X e te me) (hg : QG K X tg g n) (hs : swapsWithSole [tg] e pos.line X.env = pure false := by rfl) (hw : swappedStores [tg] e X.env = pure none := by rfl)
    (h1 : (assignEach [tg] X.env).map (·.2) = [assign tg X.env] := by rfl) : QS K X (.Assign [tg] e pos) (tAsg te g) (mAsg me n) := ⟨ps_asg he.p hg.p hs hw h1, rs_asg he.r hg.r⟩
theorem qs_set {i : Nat} {pos' : Pos} (hN : X.N.Nodup) (hi : X.N[i]? = some x) (hx : Loc X.env.scope x) (he : QE K X e te me) (hs : swapsWith e (some (.Name x pos')) pos.line X.env = pure false := by rfl) (hf : X.fn x = true ∨ X.env.scope.names.lookup x = some .local := by first | exact .inl rfl | exact .inr rfl | assumption) :
    QS K X (.Assign [.Name x pos'] e pos) (tAsg te (gName i)) (mSet i me) := ⟨ps_set hN hi hx he.p hs hf, rs_asg he.r rg_name⟩
theorem qs_setC {i : Nat} {y : Str} {elt tg iter : Expr} {ifs : List Expr} {scope : Scope} {spos py : Pos} {loc fr : List Str} {ix : List Nat} {wi : TI} {g : TG} {tf : TT} {te : TE} {mi : MI} {n : MG} {mf : MT} {mm : ME} (hN : X.N.Nodup) (hiN : X.N[i]? = some y) (hy : X.env.scope.names.lookup y = some .local)
    (hc : X.calm = true) (S : CSc X scope fr ix) (hi : QI K X tg iter wi mi)
    (hg : ∀ s H ex, QG K (cCx X (loc ++ fr) scope s H ex) tg g n) (hf : ∀ s H ex, QF K (cCx X (loc ++ fr) scope s H ex) ifs tf mf) (he : ∀ s H ex, QE K (cCx X (loc ++ fr) scope s H ex) elt te mm)
    (hsw : swapsWith (.ListComp elt [⟨tg, iter, ifs, 0⟩] scope pos) (some (.Name y py)) spos.line X.env = pure true := by rfl) (hs : ∀ x, foldedSetIterable iter X.env x = pure x := by intro _; rfl) :
    QS K X (.Assign [.Name y py] (.ListComp elt [⟨tg, iter, ifs, 0⟩] scope pos) spos) (tAsg (tComp loc.length ix wi g tf te) (gName i)) (mSet i (mNew (mComp loc.length ix mi n mf mm))) :=
  ⟨ps_setC hN hiN hy hc S hi.p (λ s H ex => (hg s H ex).p) (λ s H ex => (hf s H ex).p) (λ s H ex => (he s H ex).p) hsw hs, rs_asg (re_new (rn_comp hi.r (hg X.s₀ X.H₀ []).r (hf X.s₀ X.H₀ []).r (he X.s₀ X.H₀ []).r)) rg_name⟩
theorem qs_dput {o i value : Expr} {pos' : Pos} {td ty tv : TE} {md my mv : ME} (hu : X.A.units + 1 < cLine) (ho : QE K X o td md) (hi : QE K X i ty my) (hv : QE K X value tv mv) (hs : swapsWith value (some (.Subscript o i pos')) pos.line X.env = pure false := by rfl) :
    QS K X (.Assign [.Subscript o i pos'] value pos) (sDPut td ty tv) (mDPut md my mv) := ⟨ps_dput hu ho.p hi.p hv.p hs, rs_dput ho.r hi.r hv.r⟩
theorem qs_aug {i : Nat} {op : Operator} {g : Int -> Int -> Int} {pos' : Pos} (hN : X.N.Nodup) (hi : X.N[i]? = some x) (hx : Loc X.env.scope x) (he : QE K X e te me) (ho : PIp X op (ipI g)) (hf : X.fn x = true ∨ X.env.scope.names.lookup x = some .local := by first | exact .inl rfl | exact .inr rfl | assumption) :
    QS K X (.AugAssign (.Name x pos') op e pos) (tAug i te (ipI g)) (mAug i g me) := ⟨ps_aug hN hi hx he.p ho hf, rs_aug he.r⟩
theorem qs_for {tg iter : Expr} {body : List Stmt} {wi : TI} {g : TG} {tb : TS} {mi : MI} {n : MG} {mb : MS} (hc : X.calm = true) (hi : QI K X tg iter wi mi) (hg : QG K X tg g n) (hb : QSs K X body tb mb) (hp : PassesOwn (model X.prog X.w) X.A X.env X.xe := by exact PassesOwn.never)
    (hs : ∀ x, foldedSetIterable iter X.env x = pure x := by intro _; rfl) : QS K X (.For tg iter body [] pos) (tFor wi g tb) (mFor mi n mb) := ⟨ps_for hp hc hi.p hg.p hb.p hs, rs_for hi.r hg.r hb.r⟩
end
theorem ok_data {P : Program} {w : World} {K : PySem.W.Frag} {mg : Str -> Option Value} {base : Heap} {x : Str} {st : Stmt} {f : Addr} {fd : FuncData} {N ps : List Str} {j : Nat} {m : MS} (DA : DefAt K mg x st f fd ps) (S : FnScope N ps (defScope st))
    (h : ∀ (cdv : Value) (A : Around) (outer : List Env) (s : Shared) (H : Hp) (E : XK), Room j (A.deeper (envOfC x (defScope st) s.heap.objs.size f cdv)) -> ∃ t, QSs K (cxOf CX0 P w K mg base N x (defScope st) f cdv A outer s H E).nox (defBody st) t m) :
    FnOk P w K mg base CX0 (j + 1) f fd ps (spF K ps.length (mkF ps.length N.length m)) := by
  refine DA.fn.ok S (λ vs H Q E h => h.1) (λ cdv A outer s H vs Q E hr hs => ?_)
  obtain ⟨t, q⟩ := h cdv A outer s H E hr
  exact ⟨t, q.p, sp_body q.r hs⟩
end L2
namespace L2
open PySem PySem.Spec PyProof.Rows
section
variable {X : Cx} {pins : List (Addr × Obj)} {σ : List (Option V)} {H H' : Hp} {s : Shared} {h' : Heap}
theorem Inv.turns {tk : Nat} {fp : List Addr} (I : Inv X pins σ H s) (k : ∀ b o, b ∉ fp -> s.heap.get? b = some o -> h'.get? b = some o) (hf : ∀ b ∈ fp, FpOk X pins H b) : Inv X pins σ H { s with heap := h', toks := tk } := by
  have out : ∀ b u, H b = some u -> b ∉ fp := λ b u e z => by rw [(hf b z).1] at e; cases e
  have hL : X.env.locals ∉ fp := λ z => (hf _ z).2.1 rfl
  refine I.step (g' := s.gens) (d' := s.drawn) (ch := fp) (λ b hb => ⟨(hf b hb).2.2.2.1, (hf b hb).2.1, (hf b hb).2.2.2.2.1, (hf b hb).2.2.2.2.2⟩) (λ b o _ _ hc e _ => k b o hc e) (λ b o _ _ hc e _ => ⟨o.slots, k b o hc e⟩) (λ _ _ _ _ n => n)
    (λ b o hc e => ⟨o, k b o hc e⟩) (λ _ _ e => e) (λ _ _ _ e => e) (λ b ps e => ⟨#[], by rw [e]; simp⟩) (λ m hm => ?_) (λ b u e => ?_) I.bare
  . obtain ⟨o, es, ep, ho, r⟩ := hm
    exact ⟨o, es, ep, k _ o hL ho, r⟩
  . refine (I.hok b u e).stay (λ c v hc q => k c v ?_ q) (λ _ q => q) λ _ _ q => q
    rcases hc with z | z
    . rw [z]; exact out b u e
    . exact out c _ z
end
theorem Inv.turnsL {X : Cx} {pins : List (Addr × Obj)} {σ : List (Option V)} {H : Hp} {s : Shared} {h' : Heap} {tk : Nat} {fp : List Addr} {a : Addr} {o : HO} (I : Inv X pins σ H s) (k : ∀ b o, b ∉ fp -> s.heap.get? b = some o -> h'.get? b = some o) (hf : ∀ b ∈ fp, FpOk X pins H b) (ha : s.heap.objs.size <= a) (new : ObjOk X.prog X.w (upd H a o) h' a o) :
    Inv X pins σ (upd H a o) { s with heap := h', toks := tk } := by
  have out : ∀ b u, H b = some u -> b ∉ fp := λ b u e z => by rw [(hf b z).1] at e; cases e
  have hL : X.env.locals ∉ fp := λ z => (hf _ z).2.1 rfl
  have fr : H a = none := I.hok.fresh ha
  refine I.step (g' := s.gens) (d' := s.drawn) (ch := fp) (λ b hb => ⟨(hf b hb).2.2.2.1, (hf b hb).2.1, (hf b hb).2.2.2.2.1, (hf b hb).2.2.2.2.2⟩) (λ b o _ _ hc e _ => k b o hc e) (λ b o _ _ hc e _ => ⟨o.slots, k b o hc e⟩)
    (λ b o _ e n => by rw [upd_ne (Nat.ne_of_lt (Nat.lt_of_lt_of_le (Heap.lt_size e) ha))]; exact n) (λ b o hc e => ⟨o, k b o hc e⟩) (λ b xs e => by rw [upd_ne (ne_of_none e fr)]; exact e) (λ b o u e => by rw [upd_ne (ne_of_none e fr)]; exact e)
    (λ b ps e => ⟨#[], by rw [upd_ne (ne_of_none e fr), e]; simp⟩) (λ m hm => ?_) (λ b u e => ?_) I.bare
  . obtain ⟨o, es, ep, ho, r⟩ := hm
    exact ⟨o, es, ep, k _ o hL ho, r⟩
  . by_cases hb : b = a
    . subst hb; rw [upd_same] at e; cases e; exact new
    . rw [upd_ne hb] at e
      refine (I.hok b u e).stay (λ c v hc q => k c v ?_ q) (λ c q => by rw [upd_ne (ne_of_none q fr)]; exact q) λ c xs q => by rw [upd_ne (ne_of_none q fr)]; exact q
      rcases hc with z | z
      . rw [z]; exact out b u e
      . exact out c _ z
def RowI (tp : Bool) (h : Heap) (it l : Addr) (k : Nat) : Prop := match tp with
  | true => h.IsTupleIter it l k
  | false => h.IsListIter it l k
def RowL (tp : Bool) (h : Heap) (l : Addr) (xs : Array Value) : Prop := match tp with
  | true => h.IsTuple l xs
  | false => h.IsList l xs
theorem RowI.at {tp : Bool} {h h' : Heap} {it l : Addr} {k : Nat} (x : RowI tp h it l k) (e : ∀ o, h.get? it = some o -> h'.get? it = some o) : RowI tp h' it l k := by
  cases tp with
  | true => exact Heap.IsTupleIter.at x e
  | false => exact Heap.IsListIter.at x e
theorem RowL.at {tp : Bool} {h h' : Heap} {l : Addr} {xs : Array Value} (x : RowL tp h l xs) (e : ∀ o, h.get? l = some o -> h'.get? l = some o) : RowL tp h' l xs := by
  cases tp with
  | true => obtain ⟨o, e1, r⟩ := (show h.IsTuple l xs from x); exact ⟨o, e _ e1, r⟩
  | false => obtain ⟨o, e1, r⟩ := (show h.IsList l xs from x); exact ⟨o, e _ e1, r⟩
theorem RowI.obj {tp : Bool} {h : Heap} {it l : Addr} {k : Nat} (x : RowI tp h it l k) : ∃ o, h.get? it = some o /\ o.data = .fields #[.ref l, .int k 0] := by
  cases tp with
  | true => obtain ⟨o, e, _, d⟩ := (show h.IsTupleIter it l k from x); exact ⟨o, e, d⟩
  | false => obtain ⟨o, e, _, d⟩ := (show h.IsListIter it l k from x); exact ⟨o, e, d⟩
theorem RowL.obj {tp : Bool} {h : Heap} {l : Addr} {xs : Array Value} (x : RowL tp h l xs) : ∃ o n, h.get? l = some o /\ o.data = .seq xs n := by
  cases tp with
  | true => obtain ⟨o, e, _, n, d⟩ := (show h.IsTuple l xs from x); exact ⟨o, n, e, d⟩
  | false => obtain ⟨o, e, _, n, d⟩ := (show h.IsList l xs from x); exact ⟨o, n, e, d⟩
section
variable {prog : Program} {w : World} {A : Around} {E : Value -> Shared -> Prop} {s : Shared} {it l : Addr} {k : Nat} {xs : Array Value} {x : Value}
end
section
variable {prog : Program} {w : World} {A : Around} {E : Value -> Shared -> Prop} {s : Shared} {t1 t2 : Bool} {z a b i1 i2 l1 l2 : Addr} {j k : Nat} {xs ys : Array Value} {x y : Value}
end
def SqS (K : PySem.W.Frag) (tp : Bool) (H : Hp) (a : Addr) (xs : List V) : Prop := match tp with
  | true => SqT K H a xs
  | false => SqL K H a xs
section
variable {X : Cx} {pins : List (Addr × Obj)} {σ : List (Option V)} {H : Hp} {s : Shared}
theorem Inv.row {tp : Bool} {a : Addr} {xs : List V} (I : Inv X pins σ H s) (h : SqS X.K tp H a xs) : ∃ its : List Value, Vals xs its /\ RowL tp s.heap a its.toArray /\ xs.length <= sizeLine := by
  cases tp with
  | true => obtain ⟨its, r, p, z⟩ := I.tuple h; exact ⟨its, r, (show s.heap.IsTuple a its.toArray from p), z⟩
  | false => obtain ⟨its, r, p, z⟩ := I.list h; exact ⟨its, r, p.isList, z⟩
end
end L2
namespace L2
open PySem PySem.Spec PyProof.Rows
section
variable {prog : Program} {w : World} {A : Around} {E : Value -> Shared -> Prop} {s : Shared}
end
section
variable {X : Cx}
end
def Stays (K : PySem.W.Frag) (ρ : List Addr) (H : Hp) (tp : Bool) (a : Addr) (ds : List D) (g : Gd) : Prop := ∀ (ρ2 : List Addr) (H2 : Hp) (hd2 : Hd), Ext ρ H ρ2 H2 -> RH K ρ2 H2 hd2 -> GOk hd2 g -> ∃ xs, SqS K tp H2 a xs /\ RDs K ρ2 H2 ds xs
def RRw (K : PySem.W.Frag) (tp : Bool) (t : TE) (m : MI) : Prop := ∀ (ρ : List Addr) (σ : St) (H : Hp) (hd : Hd) (ls : Ls) (Q : VK) (d : List D) (g : Gd) (hd' : Hd), RH K ρ H hd -> RL K ρ H ls σ -> m ls hd = some ((d, g), hd') ->
  (∀ ρ' H' a, Ext ρ H ρ' H' -> RH K ρ' H' hd' -> GOk hd' g -> Stays K ρ' H' tp a d g -> Q (.ref a) H') -> t σ H Q
structure QR (K : PySem.W.Frag) (tp : Bool) (X : Cx) (e : Expr) (t : TE) (m : MI) : Prop where
  p : PE X e t
  r : RRw K tp t m
section
variable {K : PySem.W.Frag} {ρ ρ' : List Addr} {H H' : Hp} {hd hd' : Hd}
theorem rw_tup {t : TE} {m : ME} (h : RE K t m) : RRw K true t (mItT m) := by
  intro ρ σ H hd ls Q d g hd' hR hL hm hQ
  obtain ⟨⟨d1, h1⟩, e1, hm⟩ := Option.bind_eq_some_iff.mp hm
  obtain ⟨ds, e2, e3⟩ := Option.map_eq_some_iff.mp hm
  cases e3
  refine h ρ σ H hd ls _ d1 _ hR hL e1 λ ρ1 H1 v x1 R1 r1 => ?_
  obtain ⟨a, xs, rfl, q, r⟩ := r1.tup e2
  exact hQ ρ1 H1 a x1 R1 (gok_nil _) λ ρ2 H2 hd2 x2 R2 _ => ⟨xs, (x2.grow R1).sq q, r.ext R1 x2⟩
theorem rw_list {t : TE} {m : ME} (h : RE K t m) : RRw K false t (mItL m) := by
  intro ρ σ H hd ls Q d g hd' hR hL hm hQ
  obtain ⟨⟨d1, h1⟩, e1, hm⟩ := Option.bind_eq_some_iff.mp hm
  dsimp only at hm
  split at hm
  . next n =>
    split at hm
    . next ds q =>
      cases hm
      refine h ρ σ H hd ls _ _ _ hR hL e1 λ ρ1 H1 v x1 R1 r1 => ?_
      simp only [RD] at r1
      obtain ⟨a, hn, rfl⟩ := r1
      refine hQ ρ1 H1 a x1 R1 (λ p z => by simp at z; subst z; exact q) λ ρ2 H2 hd2 x2 R2 G2 => ?_
      have hn2 : ρ2[n]? = some a := by
        obtain ⟨r, rfl, _⟩ := x2.pre
        rw [List.getElem?_append_left (List.getElem?_eq_some_iff.mp hn).1]; exact hn
      obtain ⟨ys, e4, e5⟩ := R2.lst hn2 (G2 (n, d) (by simp))
      exact ⟨ys, SqL.of e4, e5⟩
    . cases hm
  . next ns =>
    cases hm
    refine h ρ σ H hd ls _ _ _ hR hL e1 λ ρ1 H1 v x1 R1 r1 => ?_
    simp only [RD] at r1
    obtain ⟨a, rfl, q⟩ := r1
    exact hQ ρ1 H1 a x1 R1 (gok_nil _) λ ρ2 H2 hd2 x2 R2 _ => ⟨_, (q.grow (x2.grow R1)).sq, ints_rd⟩
  . cases hm
theorem rw_hid {t : TE} {m : MA} (h : RN K t m) : RRw K false t (mItH m) := by
  intro ρ σ H hd ls Q d g hd' hR hL hm hQ
  obtain ⟨⟨d1, h1⟩, e1, e3⟩ := Option.map_eq_some_iff.mp hm
  cases e3
  refine h ρ σ H hd ls _ _ _ hR hL e1 λ ρ1 H1 a xs x1 R1 na oa ea r1 => ?_
  exact hQ ρ1 H1 a x1 R1 (gok_nil _) λ ρ2 H2 hd2 x2 R2 _ => ⟨xs, SqL.of (x2.keep a _ ea oa nt), r1.ext R1 x2⟩
end
section
variable (K : PySem.W.Frag) {X : Cx} {a b e : Expr} {ta tb te : TE} {me : ME} {m : MA}
theorem qr_tup (h : QE K X e te me) : QR K true X e te (mItT me) := ⟨h.p, rw_tup h.r⟩
theorem qr_list (h : QE K X e te me) : QR K false X e te (mItL me) := ⟨h.p, rw_list h.r⟩
theorem qr_hid (h : QN K X e te m) : QR K false X e te (mItH m) := ⟨h.p, rw_hid h.r⟩
end
section
variable {K : PySem.W.Frag}
def mIxH (ml : MA) (mb : ME) : ME := λ ls hd => (ml ls hd).bind λ p => (mb ls p.2).bind λ q => match q.1 with
  | .im (.int i) => (atI p.1 i).map (·, q.2)
  | _ => none
theorem re_ixH {ta tb : TE} {ml : MA} {mb : ME} (ha : RN K ta ml) (hb : RE K tb mb) : RE K (tOp (rIxLT K) ta tb) (mIxH ml mb) := by
  intro ρ σ H hd ls Q d hd' hR hL hm hQ
  obtain ⟨⟨d1, h1⟩, e1, hm⟩ := Option.bind_eq_some_iff.mp hm
  obtain ⟨⟨d2, h2⟩, e2, hm⟩ := Option.bind_eq_some_iff.mp hm
  dsimp only at hm
  split at hm
  . obtain ⟨w, e3, e4⟩ := Option.map_eq_some_iff.mp hm
    cases e4
    refine ha ρ σ H hd ls _ d1 h1 hR hL e1 λ ρ1 H1 a xs x1 R1 na oa ea r1 => ?_
    refine hb ρ1 σ H1 h1 ls _ _ _ R1 (hL.ext hR x1) e2 λ ρ2 H2 v2 x2 R2 r2 => ?_
    simp only [RD, RI] at r2
    subst r2
    have r1' := r1.ext R1 x2
    obtain ⟨j, j1, j2⟩ := atI_len r1'.len e3
    obtain ⟨x, y1, y2⟩ := r1'.get j1
    exact .inl ⟨a, xs, _, x, rfl, rfl, SqL.of (x2.keep a _ ea oa nt), j2 x y1, hQ ρ2 H2 x (x1.trans R1 x2) R2 y2⟩
  . cases hm
def eqvP (neg : Bool) (x y : PyData) (hd : Hd) : Option (D × Hd) := if x.canLay0 = true /\ y.canLay0 = true /\ min x.depth y.depth <= 60 then some (.im (.bl (if neg then !PyData.eqv x y else PyData.eqv x y)), hd) else none
def mEqEN (neg : Bool) (ma : ME) (ml : MA) : ME := λ ls hd => (ma ls hd).bind λ p => (ml ls p.2).bind λ q => (pyD q.2 p.1).bind λ x => (allIm q.1).bind λ is => eqvP neg x (.list (I.pys is)) q.2
def rEN (K : PySem.W.Frag) (neg : Bool) : R2 := λ x y H Q => ∃ d e, Rep K H d x /\ Rep K H e y /\ d.canLay0 = true /\ e.canLay0 = true /\ min d.depth e.depth <= 60 /\ Q (.bl (if neg then !PyData.eqv d e else PyData.eqv d e)) H
theorem rep_hid {ρ : List Addr} {H : Hp} {a : Addr} {xs : List V} {ds : List D} {is : List I} (ea : H a = some (.lst xs)) (r : RDs K ρ H ds xs) (e : allIm ds = some is) : Rep K H (.list (I.pys is)) (.ref a) := by
  rw [allIm_eq e] at r
  simp only [Rep]
  exact ⟨a, xs, rfl, SqL.of ea, r.is.rep⟩
theorem re_eqEN {neg : Bool} {ta tb : TE} {ma : ME} {ml : MA} (ha : RE K ta ma) (hb : RN K tb ml) : RE K (tOp (rEN K neg) ta tb) (mEqEN neg ma ml) := by
  intro ρ σ H hd ls Q d hd' hR hL hm hQ
  obtain ⟨⟨d1, h1⟩, e1, hm⟩ := Option.bind_eq_some_iff.mp hm
  obtain ⟨⟨d2, h2⟩, e2, hm⟩ := Option.bind_eq_some_iff.mp hm
  obtain ⟨x, e3, hm⟩ := Option.bind_eq_some_iff.mp hm
  obtain ⟨is, e4, hm⟩ := Option.bind_eq_some_iff.mp hm
  unfold eqvP at hm
  split at hm
  . next c =>
    cases hm
    refine ha ρ σ H hd ls _ d1 h1 hR hL e1 λ ρ1 H1 v x1 R1 r1 => ?_
    refine hb ρ1 σ H1 h1 ls _ d2 _ R1 (hL.ext hR x1) e2 λ ρ2 H2 a xs x2 R2 na oa ea r2 => ?_
    exact ⟨_, _, pyD_rep R2 (r1.ext R1 x2) e3, rep_hid ea r2 e4, c.1, c.2.1, c.2.2, hQ ρ2 H2 _ (x1.trans R1 x2) R2 (by simp [RD, RI])⟩
  . cases hm
end
theorem op_eqH (K : PySem.W.Frag) {X : Cx} (hu : X.A.units + 64 < cLine) (hK : X.K = K := by rfl) : OpR X (compareOp .Eq) (rEN K false) := op_eqDK K hu hK
theorem op_neH (K : PySem.W.Frag) {X : Cx} (hu : X.A.units + 64 < cLine) (hK : X.K = K := by rfl) : OpR X (compareOp .NotEq) (rEN K true) := op_neDK K hu hK
section
variable (K : PySem.W.Frag) {X : Cx} {a b e : Expr} {ta tb te : TE} {ma mb me : ME} {m mk : MA} {pos : Pos} {op : CmpOp} {neg : Bool}
theorem qe_ixH (ha : QN K X a ta m) (hb : QE K X b tb mb) (hs : PlainIx b := by exact λ _ _ => rfl) (hK : X.K = K := by rfl) : QE K X (.Subscript a b pos) (tOp (rIxLT K) ta tb) (mIxH m mb) := ⟨pe_ix ((ix_listK K hK).or (ix_tupK K hK)) ha.p hb.p hs, re_ixH ha.r hb.r⟩
theorem qt_eqEN (ho : OpR X (compareOp op) (rEN K neg)) (ha : QE K X a ta ma) (hb : QN K X b tb m) (hm : behindInMarks op b = false := by first | exact nomark _ | rfl) : QT K X (.Compare a [op] [b] pos) (tTest (tOp (rEN K neg) ta tb)) (mTest (mEqEN neg ma m)) := ⟨pt_cmpR ho ha.p hb.p hm, rt_test (re_eqEN ha.r hb.r)⟩
end
end L2
namespace L2
open PySem PySem.Spec PyProof.Rows
def rangeV (lo : Int) : Nat -> List V
  | 0 => []
  | n + 1 => .int lo :: rangeV (lo + 1) n
theorem range_vals {lo : Int} : ∀ {n : Nat} {us : List Value}, us.length = n -> (∀ (j : Nat) (v : Value), us[j]? = some v -> ∃ t, v = .int (lo + j * 1) t) -> Vals (rangeV lo n) us
  | 0, us, h, _ => by
    have : us = [] := List.length_eq_zero_iff.mp h
    subst this; exact .nil
  | n + 1, [], h, _ => by simp at h
  | n + 1, u :: us, h, k => by
    obtain ⟨t, e⟩ := k 0 u rfl
    refine .cons ⟨t, by rw [e]; simp⟩ (range_vals (by simpa using h) λ j v q => ?_)
    obtain ⟨t', e'⟩ := k (j + 1) v (by simpa using q)
    exact ⟨t', by rw [e']; congr 1; push_cast; omega⟩
section
variable {prog : Program} {w : World} {A : Around} {E : Value -> Shared -> Prop} {s : Shared}
theorem rng_collect {Q : List Value -> Shared -> Prop} {r : Addr} {a b c : Int} {t u v : Tok} {n : Nat} (hh : A.handled = none) (hr : IsRange s.heap r a b c t u v) (hsm : Builtin.Range.small a b c = true) (hn : Builtin.Range.rangeSize a b c = n) (hl : n <= 2 ^ 24)
    (hQ : ∀ g tk (acc : Array Value), (∀ b o, s.heap.get? b = some o -> g.get? b = some o) -> ItemsOf (λ i v => ∃ t, v = .int (a + i * c) t) acc n -> Q acc.toList { s with heap := g, toks := tk }) :
    wpAny (model prog w) A (collect (.ref r)) Q E s := by
  unfold collect
  refine wpAny_bind (wpAny_runValue (codeAny_builtin F.entry_proto_collect ?_))
  rw [Around.under_plainId F.plain_proto_collect _]
  show wpAny _ A.in1 (newList [] >>= λ l => again (.builtin "list.__iadd__" ⟨[l, .ref r], []⟩)) _ _ s
  refine wpAny_bind (wpAny_newObj_type (wpAny_pure ⟨plainId_quiet F.plain_list_iadd _, codeAny_builtin F.entry_list_iadd ?_⟩))
  rw [Around.under_plainId F.plain_list_iadd _]
  show wpAny _ A.in1 (Builtin.List.listExtendWith (.ref s.heap.objs.size) (.ref r) (.ref s.heap.objs.size)) _ _ _
  have e0 : (s.heap.push { cls := .type "list", data := .seq ([] : List Value).toArray }).get? s.heap.objs.size = some { cls := .type "list", data := .seq #[] 0 } := Heap.get?_push_size _ rfl
  have fin : ∀ g tk (acc : Array Value) c', (∀ b o, b ≠ s.heap.objs.size -> (s.heap.push { cls := .type "list", data := .seq ([] : List Value).toArray }).get? b = some o -> g.get? b = some o) -> g.get? s.heap.objs.size = some { cls := .type "list", dict := none, data := .seq acc c', slots := #[] } -> ItemsOf (λ i v => ∃ t, v = .int (a + i * c) t) acc n ->
      wpAny (model prog w) A (load s.heap.objs.size >>= λ o => match o.data with | Data.seq xs epoch => pure xs.toList | x => unsupported "internal:collect") Q E { s with heap := g, toks := tk } := λ g tk acc c' kp eS it =>
    wpAny_bind (wpAny_load eS (wpAny_pure (hQ g tk acc (λ b o q => kp b o (Nat.ne_of_lt (Heap.lt_size q)) (Heap.get?_push_of_some _ q)) it)))
  refine wpAny_mono (wpAny_extend_range (A := A) (R := λ r s' => r = .ok (.ret (.ref s.heap.objs.size)) /\ ∃ g tk, s' = { s with heap := g, toks := tk } /\ wpAny (model prog w) A (load s.heap.objs.size >>= λ o => match o.data with | Data.seq xs epoch => pure xs.toList | x => unsupported "internal:collect") Q E s')
    (s := { s with heap := s.heap.push { cls := .type "list", data := .seq ([] : List Value).toArray } }) hh (Heap.get?_push_of_some _ hr) hsm hn hl s.heap.objs.size (.ref s.heap.objs.size) 0 e0 λ g tk acc c' kp eS it => ⟨rfl, g, tk, rfl, fin g tk acc c' kp eS it⟩) (λ fn s' h => ?_) (λ e s' h => absurd h.1 (by simp))
  cases fn with
  | done f =>
    obtain ⟨e, _, _, _, q⟩ := h
    cases e
    exact q
  | again c' => exact ⟨h.1, codeAny_mono h.2 λ r s'' hr => by obtain ⟨rfl, _, _, _, q⟩ := hr; exact q⟩
end
def rRange1 : List V -> Hp -> VK -> Prop := λ xs H Q => ∃ j : Int, xs = [.int j] /\ ∀ p, H p = none -> Q (.ref p) (upd H p (.rng 0 j))
def rRange2 : List V -> Hp -> VK -> Prop := λ xs H Q => ∃ i j : Int, xs = [.int i, .int j] /\ ∀ p, H p = none -> Q (.ref p) (upd H p (.rng i j))
section
variable {X : Cx}
theorem call_rng1 : CallR X (.type "range") rRange1 := by
  intro pins s σ H xs us Q I r h
  obtain ⟨j, rfl, q⟩ := h
  obtain ⟨u, rfl, t, rfl⟩ := vals1 r
  exact call_range_1 ⟨.ref s.heap.objs.size, _, I.laid (a := s.heap.objs.size) (o := .rng 0 j) (λ b o e => Heap.get?_push_of_some _ e) (Nat.le_refl _) ⟨_, _, _, Heap.get?_push_size _ rfl⟩, rfl, q _ (I.hok.fresh (Nat.le_refl _))⟩
theorem call_rng2 : CallR X (.type "range") rRange2 := by
  intro pins s σ H xs us Q I r h
  obtain ⟨i, j, rfl, q⟩ := h
  obtain ⟨u, v, rfl, ⟨t, rfl⟩, ⟨t', rfl⟩⟩ := vals2 r
  exact call_range_2 ⟨.ref s.heap.objs.size, _, I.laid (a := s.heap.objs.size) (o := .rng i j) (λ b o e => Heap.get?_push_of_some _ e) (Nat.le_refl _) ⟨_, _, _, Heap.get?_push_size _ rfl⟩, rfl, q _ (I.hok.fresh (Nat.le_refl _))⟩
theorem rsize {lo hi : Int} : Builtin.Range.rangeSize lo hi 1 = ((hi - lo).toNat : Nat) := by rw [rangeSize_one]; split <;> omega
theorem items_vals {lo : Int} {n : Nat} {acc : Array Value} (it : ItemsOf (λ i v => ∃ t, v = .int (lo + i * 1) t) acc n) : Vals (rangeV lo n) acc.toList := range_vals (by simpa using it.1) λ j v q => it.2 j v (by simpa using q)
end
section
variable {K : PySem.W.Frag}
open Classical in
noncomputable def mRng (m : MA) : MA := λ ls hd => (m ls hd).bind λ p => match p.1 with
  | [.im (.int j)] => if rngL1 j then some (rangeD 0 j.toNat, p.2) else none
  | [.im (.int i), .im (.int j)] => if rngL2 i j then some (rangeD i (j - i).toNat, p.2) else none
  | _ => none
def rRange : List V -> Hp -> VK -> Prop := λ xs H Q => rRange1 xs H Q ∨ rRange2 xs H Q
noncomputable def mTupR (m : MA) : ME := λ ls hd => (mRng m ls hd).bind λ p => some (mkTup p.1, p.2)
theorem perm_sorted_eq : ∀ {xs ys : List Int}, xs.Perm ys -> xs.Pairwise (· <= ·) -> ys.Pairwise (· <= ·) -> xs = ys := λ {xs ys} p a b =>
  p.eq_of_pairwise (le := (· <= ·)) (λ _ _ _ _ h1 h2 => Int.le_antisymm h1 h2) a b
def sortI (xs : List Int) : List Int := xs.mergeSort (λ a b => decide (a <= b))
theorem sortI_perm (xs : List Int) : (sortI xs).Perm xs := List.mergeSort_perm ..
theorem sortI_sorted (xs : List Int) : (sortI xs).Pairwise (· <= ·) := by
  have := List.pairwise_mergeSort (le := λ a b : Int => decide (a <= b)) (by intro a b c h1 h2; simp at *; omega) (by intro a b; simp; omega) xs
  exact this.imp (by simp)
def mSorted (m : MI) : MA := λ ls hd => (m ls hd).bind λ p => (intsD p.1.1).bind λ ns => if ns.length < 64 then some ((sortI ns).map λ i => .im (.int i), p.2) else none
theorem rn_sortedL {t : TE} {m : MI} (h : RRw K false t m) : RN K (tCB (rSorted K) (tCons t tNil)) (mSorted m) := by
  intro ρ σ H hd ls Q d hd' hR hL hm hQ
  obtain ⟨⟨⟨d1, g1⟩, h1⟩, e1, hm⟩ := Option.bind_eq_some_iff.mp hm
  obtain ⟨ns, e2, hm⟩ := Option.bind_eq_some_iff.mp hm
  split at hm
  . next c =>
    cases hm
    refine h ρ σ H hd ls _ d1 g1 _ hR hL e1 λ ρ1 H1 a x1 R1 G1 S1 => ?_
    obtain ⟨xs, q, r⟩ := S1 ρ1 H1 _ .refl R1 G1
    have e3 : d1 = ns.map λ i => .im (.int i) := intsD_eq e2
    rw [e3] at r
    have := rd_ints r
    subst this
    refine ⟨a, ns, rfl, q, c, λ p ns' hp pm pw => ?_⟩
    have : ns' = sortI ns := perm_sorted_eq (pm.trans (sortI_perm ns).symm) pw (sortI_sorted ns)
    subst this
    obtain ⟨R2, x2⟩ := R1.hid (ho := .lst ((sortI ns).map V.int)) hp
    exact hQ ρ1 _ p _ (x1.trans R1 x2) R2 (x1.none hR hp R1) (R1.out hp) upd_same ints_rd
  . cases hm
end
section
variable (K : PySem.W.Frag) {X : Cx} {a b e : Expr} {ta tb te : TE} {me : ME} {m : MA} {t : TA} {p p2 pos pos2 : Pos} {es : List Expr}
theorem qn_sortedL {mi : MI} (hm : X.mg "sorted" = none) (ha : QR K false X e te mi) (hg : Gl X "sorted" := by rfl) (he : starEach [e] X.env = [(false, eval e X.env)] := by rfl) (hK : X.K = K := by rfl) : QN K X (.Call (.Name "sorted" p) [e] [] pos) (tCB (rSorted K) (tCons te tNil)) (mSorted mi) :=
  ⟨pe_callB (call_sortedK K hK) hg hm bt_sorted (pa_cons ha.p pa_nil he) (by decide) (by decide) he rfl, rn_sortedL ha.r⟩
end
end L2
namespace L2
structure BltA (mg : PySem.Str -> Option PySem.Value) : Prop where
  list : mg "list" = none
  tuple : mg "tuple" = none
  len : mg "len" = none
  range : mg "range" = none
  repr : mg "repr" = none
  sum : mg "sum" = none
  min : mg "min" = none
  max : mg "max" = none
  abs : mg "abs" = none
  all : mg "all" = none
  any : mg "any" = none
  sorted : mg "sorted" = none
  zip : mg "zip" = none
  isinstance : mg "isinstance" = none
  int : mg "int" = none
  bool : mg "bool" = none
  str : mg "str" = none
  set : mg "set" = none
  enumerate : mg "enumerate" = none
  reversed : mg "reversed" = none
  dict : mg "dict" = none
end L2
namespace L2
open PySem PySem.Spec PyProof.Rows
section
variable {ls : Ls} {hd : Hd} {a b c : MS} {ma mb mc : ME} {ta tb : MT} {m m1 m2 : MA} {n : MG} {ns : MGs} {d e : D}
@[simp] theorem ev_seq : mSeq a b ls hd = (a ls hd).bind λ p => match p.1 with
  | .nx ls1 => b ls1 p.2
  | f => some (f, p.2) := rfl
@[simp] theorem ev_next : mNext ls hd = some (.nx ls, hd) := rfl
@[simp] theorem ev_drop : mDrop ma ls hd = (ma ls hd).bind λ p => some (.nx ls, p.2) := rfl
@[simp] theorem ev_ret : mRet ma ls hd = (ma ls hd).bind λ p => some (.rt p.1, p.2) := rfl
@[simp] theorem ev_retN : mRetN ls hd = some (.rt (.im .non), hd) := rfl
@[simp] theorem ev_break : mBreak ls hd = some (.bk ls, hd) := rfl
@[simp] theorem ev_cont : mCont ls hd = some (.ct ls, hd) := rfl
@[simp] theorem ev_ifS : mIfS ta a b ls hd = (ta ls hd).bind λ p => if p.1 = true then a ls p.2 else b ls p.2 := rfl
@[simp] theorem ev_asg : mAsg ma n ls hd = (ma ls hd).bind λ p => (n p.1 ls p.2).map λ ls' => (.nx ls', p.2) := rfl
@[simp] theorem ev_name (i : Nat) : nName i d ls hd = some (ls.set i (some d)) := rfl
@[simp] theorem ev_ntup (k : Nat) : nTup k ns d ls hd = (tupView d).bind λ ds => if ds.length = k then ns ds ls hd else none := rfl
@[simp] theorem ev_ncons (d : D) (ds : List D) : nCons n ns (d :: ds) ls hd = (n d ls hd).bind λ ls1 => ns ds ls1 hd := rfl
@[simp] theorem ev_nnil : nNil [] ls hd = some ls := rfl
@[simp] theorem ev_par (ix : List Nat) : mPar ix m ls hd = (m ls hd).bind λ p => if p.1.length = ix.length then some (.nx ((ix.zip p.1).foldl (λ l q => l.set q.1 (some q.2)) ls), p.2) else none := rfl
@[simp] theorem ev_par3 (i j k : Nat) : mPar3 i j k m ls hd = mPar [k, j, i] (λ ls hd => (m ls hd).map λ p => (p.1.reverse, p.2)) ls hd := rfl
@[simp] theorem ev_var (i : Nat) : mVar i ls hd = match ls[i]? with
  | some (some d) => some (d, hd)
  | _ => none := rfl
@[simp] theorem ev_c (i : I) : mC i ls hd = some (.im i, hd) := rfl
@[simp] theorem ev_op (f : D -> D -> Hd -> Option (D × Hd)) : mOp f ma mb ls hd = (ma ls hd).bind λ p => (mb ls p.2).bind λ q => f p.1 q.1 q.2 := rfl
@[simp] theorem ev_and : mAnd ta tb ls hd = (ta ls hd).bind λ p => if p.1 = true then tb ls p.2 else some (false, p.2) := rfl
@[simp] theorem ev_or : mOr ta tb ls hd = (ta ls hd).bind λ p => if p.1 = true then some (true, p.2) else tb ls p.2 := rfl
@[simp] theorem ev_not : mNot ta ls hd = (ta ls hd).bind λ p => some (!p.1, p.2) := rfl
@[simp] theorem ev_tru : mTru ma ls hd = (ma ls hd).bind λ p => (truD p.2 p.1).map (·, p.2) := rfl
@[simp] theorem ev_test : mTest ma ls hd = (ma ls hd).bind λ p => match p.1 with
  | .im (.bl b) => some (b, p.2)
  | _ => none := rfl
@[simp] theorem ev_if : mIf ta ma mb ls hd = (ta ls hd).bind λ p => if p.1 = true then ma ls p.2 else mb ls p.2 := rfl
@[simp] theorem ev_andV : mAndV ma mb ls hd = (mTest ma ls hd).bind λ p => if p.1 = true then mb ls p.2 else some (.im (.bl false), p.2) := rfl
@[simp] theorem ev_orV : mOrV ma mb ls hd = (mTest ma ls hd).bind λ p => if p.1 = true then some (.im (.bl true), p.2) else mb ls p.2 := rfl
@[simp] theorem ev_notV : mNotV ma ls hd = (mTest ma ls hd).bind λ p => some (.im (.bl (!p.1)), p.2) := rfl
@[simp] theorem ev_nil : mNil ls hd = some ([], hd) := rfl
@[simp] theorem ev_cons : mCons ma m ls hd = (ma ls hd).bind λ p => (m ls p.2).bind λ q => some (p.1 :: q.1, q.2) := rfl
open Classical in
@[simp] theorem ev_tup : mTup m ls hd = (m ls hd).bind λ p => if fits p.1.length then some (mkTup p.1, p.2) else none := rfl
open Classical in
@[simp] theorem ev_lst : mLst m ls hd = (m ls hd).bind λ p => if fits p.1.length then some (p.1, p.2) else none := rfl
@[simp] theorem ev_new : mNew m ls hd = (m ls hd).bind λ p => some (.mu p.2.length, p.2 ++ [.lst p.1]) := rfl
@[simp] theorem ev_neg : mNeg ma ls hd = (ma ls hd).bind λ p => match p.1 with
  | .im (.int i) => some (.im (.int (-i)), p.2)
  | _ => none := rfl
@[simp] theorem ev_isN (neg : Bool) : mIsN neg ma ls hd = (ma ls hd).bind λ p => some (.im (.bl (match p.1 with
  | .im .non => !neg
  | _ => neg)), p.2) := rfl
@[simp] theorem ev_fI (g : Int -> Int -> Option I) (i j : Int) : fI g (.im (.int i)) (.im (.int j)) hd = (g i j).map (.im ·, hd) := rfl
@[simp] theorem ev_else (f g : D -> D -> Hd -> Option (D × Hd)) : fElse f g d e hd = match f d e hd with
  | some z => some z
  | none => g d e hd := rfl
@[simp] theorem ev_eqI (neg : Bool) (i j : Int) : gEqS neg (.im (.int i)) (.im (.int j)) hd = some (.im (.bl (if neg then !decide (i = j) else decide (i = j))), hd) := by simp [gEqS, scI, scal]
@[simp] theorem ev_eqX (neg : Bool) (i j : Str) : gEqS neg (.im (.str i)) (.im (.str j)) hd = some (.im (.bl (if neg then !decide (i = j) else decide (i = j))), hd) := by simp [gEqS, scI, scal]
@[simp] theorem ev_ix (i : Int) : gIx d (.im (.int i)) hd = (seqView hd d).bind λ ds => (atI ds i).map (·, hd) := rfl
@[simp] theorem ev_dget : gDGet d e hd = (dicView hd d).bind λ kvs => (keyD e).bind λ k => (valD kvs k).map (·, hd) := rfl
@[simp] theorem ev_cb (f : List D -> Hd -> Option (D × Hd)) : mCB f m ls hd = (m ls hd).bind λ p => f p.1 p.2 := rfl
@[simp] theorem ev_f1 (tp : Bool) (g : List D -> Option D) : f1 tp g [d] hd = ((if tp then seqView hd d else lstView hd d)).bind λ ds => (g ds).map (·, hd) := rfl
@[simp] theorem ev_hid (g : List D -> Option D) : mHid g m ls hd = (m ls hd).bind λ p => (g p.1).map (·, p.2) := rfl
@[simp] theorem ev_mt (f : D -> List D -> Hd -> Option (D × Hd)) : mMt f ma m ls hd = (ma ls hd).bind λ p => match lstView p.2 p.1 with
  | some _ => (m ls p.2).bind λ q => f p.1 q.1 q.2
  | none => none := rfl
@[simp] theorem ev_max2 (i j : Int) : fMax2 [.im (.int i), .im (.int j)] hd = some (.im (.int (if j > i then j else i)), hd) := rfl
@[simp] theorem ev_min2 (i j : Int) : fMin2 [.im (.int i), .im (.int j)] hd = some (.im (.int (if j < i then j else i)), hd) := rfl
@[simp] theorem ev_abs (i : Int) : fAbs [.im (.int i)] hd = some (.im (.int (if i < 0 then -i else i)), hd) := rfl
@[simp] theorem ev_ixH : mIxH m ma ls hd = (m ls hd).bind λ p => (ma ls p.2).bind λ q => match q.1 with
  | .im (.int i) => (atI p.1 i).map (·, q.2)
  | _ => none := rfl
@[simp] theorem ev_itT : mItT ma ls hd = (ma ls hd).bind λ p => (tupView p.1).map λ ds => ((ds, []), p.2) := rfl
@[simp] theorem ev_itH : mItH m ls hd = (m ls hd).map λ p => ((p.1, []), p.2) := rfl
@[simp] theorem ev_itL : mItL ma ls hd = (ma ls hd).bind λ p => match p.1 with
  | .mu n => match p.2[n]? with
    | some (.lst ds) => some ((ds, [(n, ds)]), p.2)
    | _ => none
  | .ro ns => some ((ns.map λ n => .im (.int n), []), p.2)
  | _ => none := rfl
open Classical in
@[simp] theorem ev_itR : mItR m ls hd = (m ls hd).bind λ p => match p.1 with
  | [.im (.int j)] => if rng1 j then some ((rangeD 0 j.toNat, []), p.2) else none
  | _ => none := rfl
open Classical in
@[simp] theorem ev_itR2 : mItR2 m ls hd = (m ls hd).bind λ p => match p.1 with
  | [.im (.int i), .im (.int j)] => if rng2 i j then some ((rangeD i (j - i).toNat, []), p.2) else none
  | _ => none := rfl
@[simp] theorem ev_for (mi : MI) : mFor mi n a ls hd = (mi ls hd).bind λ p => mLoop n a p.1.2 p.1.1 ls p.2 := rfl
open Classical in
@[simp] theorem ev_comp (k : Nat) (ix : List Nat) (mi : MI) : mComp k ix mi n ta ma ls hd = (mi ls hd).bind λ p => if fits p.1.1.length then mCompGo n ta ma p.1.2 p.1.1 (captD k ix ls) p.2 else none := rfl
@[simp] theorem ev_yes : mYes ls hd = some (true, hd) := rfl
@[simp] theorem ev_callG (F : List D -> Hd -> Option (D × Hd)) : mCallG F m ls hd = (m ls hd).bind λ p => F p.1 p.2 := rfl
@[simp] theorem ev_noPart : mNoPart ls hd = some (none, hd) := rfl
@[simp] theorem ev_part : mPart ma ls hd = (ma ls hd).bind λ p => match p.1 with
  | .im (.int i) => some (some i, p.2)
  | _ => none := rfl
@[simp] theorem ev_list : mList ma ls hd = (ma ls hd).bind λ p => (seqView p.2 p.1).map (·, p.2) := rfl
@[simp] theorem ev_listH : mListH m ls hd = m ls hd := rfl
@[simp] theorem ev_slL (ml mh : MO1) : mSlL ma ml mh ls hd = (ma ls hd).bind λ p => (ml ls p.2).bind λ l => (mh ls l.2).bind λ h => (lstView h.2 p.1).bind λ ds => some (cutD ds l.1 h.1, h.2) := rfl
@[simp] theorem ev_slT (ml mh : MO1) : mSlT ma ml mh ls hd = (ma ls hd).bind λ p => (ml ls p.2).bind λ l => (mh ls l.2).bind λ h => (tupView p.1).bind λ ds => if ¬ (HT.sIx ds.length 0 l.1 = 0 /\ HT.sIx ds.length ds.length h.1 = ds.length) then some (mkTup (cutD ds l.1 h.1), h.2) else none := rfl
@[simp] theorem ev_tupR : mTupR m ls hd = (mRng m ls hd).bind λ p => some (mkTup p.1, p.2) := rfl
open Classical in
@[simp] theorem ev_rng : mRng m ls hd = (m ls hd).bind λ p => match p.1 with
  | [.im (.int j)] => if rngL1 j then some (rangeD 0 j.toNat, p.2) else none
  | [.im (.int i), .im (.int j)] => if rngL2 i j then some (rangeD i (j - i).toNat, p.2) else none
  | _ => none := rfl
@[simp] theorem ev_sorted (mi : MI) : mSorted mi ls hd = (mi ls hd).bind λ p => (intsD p.1.1).bind λ ns => if ns.length < 64 then some ((sortI ns).map λ i => .im (.int i), p.2) else none := rfl
@[simp] theorem ev_disp (ms : List (ME × ME)) : mDisp ms ls hd = (mPairs ms ls hd).bind λ p => if p.1.length <= 15 then some (.mu p.2.length, p.2 ++ [.dic (mergeD [] p.1)]) else none := rfl
@[simp] theorem ev_pairs0 : mPairs [] ls hd = some ([], hd) := rfl
@[simp] theorem ev_pairs (r : List (ME × ME)) : mPairs ((ma, mb) :: r) ls hd = (ma ls hd).bind λ p => (mb ls p.2).bind λ q => (mPairs r ls q.2).bind λ z => (keyD p.1).map λ k => ((k, q.1) :: z.1, z.2) := rfl
open Classical in
@[simp] theorem ev_dput : mDPut ma mb mc ls hd = (mc ls hd).bind λ p => (ma ls p.2).bind λ q => (mb ls q.2).bind λ r => (keyD r.1).bind λ k => match q.1 with
  | .mu n => match r.2[n]? with
    | some (.dic kvs) => if fitsL kvs.length then some (.nx ls, r.2.set n (.dic (putD kvs k p.1))) else none
    | _ => none
  | _ => none := rfl
@[simp] theorem ev_lput : mLPut ma mb mc ls hd = (mc ls hd).bind λ p => (ma ls p.2).bind λ q => (mb ls q.2).bind λ r => match q.1, r.1 with
  | .mu n, .im (.int i) => match r.2[n]? with
    | some (.lst ds) => (ixN ds.length i).map λ j => (.nx ls, r.2.set n (.lst (ds.set j p.1)))
    | _ => none
  | _, _ => none := rfl
@[simp] theorem tv_tup (is : List I) : tupView (.im (.tup is)) = some (is.map .im) := rfl
@[simp] theorem tv_tm (ds : List D) : tupView (.tm ds) = some ds := rfl
@[simp] theorem tv_mu (k : Nat) : tupView (.mu k) = none := rfl
@[simp] theorem tv_ro (k : List Int) : tupView (.ro k) = none := rfl
@[simp] theorem sv_tup (is : List I) : seqView hd (.im (.tup is)) = some (is.map .im) := rfl
@[simp] theorem sv_tm (ds : List D) : seqView hd (.tm ds) = some ds := rfl
@[simp] theorem sv_mu (k : Nat) : seqView hd (.mu k) = lstView hd (.mu k) := rfl
@[simp] theorem sv_ro (k : List Int) : seqView hd (.ro k) = some (k.map λ n => .im (.int n)) := rfl
@[simp] theorem lv_mu (k : Nat) : lstView hd (.mu k) = match hd[k]? with
    | some (.lst ds) => some ds
    | _ => none := rfl
@[simp] theorem lv_ro (k : List Int) : lstView hd (.ro k) = some (k.map λ n => .im (.int n)) := rfl
@[simp] theorem dv_mu (k : Nat) : dicView hd (.mu k) = match hd[k]? with
    | some (.dic ds) => some ds
    | _ => none := rfl
@[simp] theorem key_i (i : Int) : keyD (.im (.int i)) = some (.inl i) := rfl
@[simp] theorem key_s (i : Str) : keyD (.im (.str i)) = some (.inr i) := rfl
@[simp] theorem ai_nil : allIm [] = some [] := rfl
@[simp] theorem ai_im (i : I) (r : List D) : allIm (.im i :: r) = (allIm r).map (i :: ·) := rfl
@[simp] theorem id_nil : intsD [] = some [] := rfl
@[simp] theorem id_int (i : Int) (r : List D) : intsD (.im (.int i) :: r) = (intsD r).map (i :: ·) := rfl
@[simp] theorem bd_nil : blsD [] = some [] := rfl
@[simp] theorem bd_bl (i : Bool) (r : List D) : blsD (.im (.bl i) :: r) = (blsD r).map (i :: ·) := rfl
@[simp] theorem mkTup_im (is : List I) : mkTup (is.map .im) = .im (.tup is) := by simp [mkTup]
@[simp] theorem mkTup_nil : mkTup [] = .im (.tup []) := rfl
@[simp] theorem mkTup_1 (i : I) : mkTup [.im i] = .im (.tup [i]) := rfl
@[simp] theorem mkTup_2 (i j : I) : mkTup [.im i, .im j] = .im (.tup [i, j]) := rfl
@[simp] theorem mkTup_3 (i j k : I) : mkTup [.im i, .im j, .im k] = .im (.tup [i, j, k]) := rfl
@[simp] theorem mkTup_4 (i j k l : I) : mkTup [.im i, .im j, .im k, .im l] = .im (.tup [i, j, k, l]) := rfl
@[simp] theorem clD_im (w : Nat) (i : I) : clD w (.im i) = true := by simp [clD]
@[simp] theorem clD_mu (w n : Nat) : clD w (.mu n) = decide (n < w) := by simp [clD]
@[simp] theorem clDs_nil (w : Nat) : clDs w [] = true := by simp [clDs]
@[simp] theorem clDs_cons (w : Nat) (d : D) (ds : List D) : clDs w (d :: ds) = (clD w d && clDs w ds) := by simp [clDs]
@[simp] theorem at_0 {α : Type} (x : α) (r : List α) : atI (x :: r) 0 = some x := atI_nat (j := 0) rfl
@[simp] theorem at_1 {α : Type} (x y : α) (r : List α) : atI (x :: y :: r) 1 = some y := atI_nat (j := 1) rfl
@[simp] theorem at_2 {α : Type} (x y z : α) (r : List α) : atI (x :: y :: z :: r) 2 = some z := atI_nat (j := 2) rfl
theorem at_k {α : Type} {xs : List α} {i : Int} {k : Nat} {x : α} (hi : i = k) (h : xs[k]? = some x) : atI xs i = some x := by subst hi; exact atI_nat h
@[simp] theorem fits_0 : fits 0 := fits_of (by decide)
@[simp] theorem fits_1 : fits 1 := fits_of (by decide)
@[simp] theorem fits_2 : fits 2 := fits_of (by decide)
@[simp] theorem fits_3 : fits 3 := fits_of (by decide)
@[simp] theorem fits_4 : fits 4 := fits_of (by decide)
@[simp] theorem fitsL_4 : fitsL 4 := fitsL_of (by decide)
open Classical in
@[simp] theorem ev_app (k : Nat) (x : D) : fAppend (.mu k) [x] hd = match hd[k]? with
    | some (.lst ds) => if fitsL ds.length then some (.im .non, hd.set k (.lst (ds ++ [x]))) else none
    | _ => none := rfl
theorem callW0_im {F : List D -> Hd -> Option (D × Hd)} {ds : List D} {hd1 h2 : Hd} {i : I} (h1 : m ls hd = some (ds, hd1)) (hc : clDs 0 ds = true) (hF : F ds [] = some (.im i, h2)) : mCallW 0 F m ls hd = some (.im i, hd1) := by
  simp [mCallW, h1, hc, hF, fin]
theorem callW_im {w : Nat} {F : List D -> Hd -> Option (D × Hd)} {ds : List D} {pre pre' rest g : Hd} {i : I} (hw : pre.length = w) (hw' : pre'.length = w) (h1 : m ls hd = some (ds, pre ++ rest)) (hc : clDs w ds = true) (hp : pre.all (clO w) = true) (hp' : pre'.all (clO w) = true) (hF : F ds pre = some (.im i, pre' ++ g)) : mCallW w F m ls hd = some (.im i, pre' ++ rest) := by
  subst hw
  have e1 : (pre ++ rest).take pre.length = pre := by simp
  have e2 : (pre' ++ g).take pre.length = pre' := by rw [<- hw']; simp
  simp only [mCallW, h1, Option.bind_some, e1, hc, hp, hF, fin, e2, hp']
  simp
end
end L2
namespace L2
open PySem PySem.Spec PyProof.Rows
section
variable {prog : Program} {w : World} {A : Around} {R : Result -> Shared -> Prop} {s : Shared} {elt tg iter tg2 iter2 : Expr} {ifs ifs2 : List Expr} {scope : Scope} {pos : Pos} {it acc : Value} {env : Env}
end
end L2
namespace L2
open PySem PySem.Spec PyProof.Rows
section
variable {X : Cx}
end
end L2
namespace L2
open PySem PySem.Spec PyProof.Rows
open Classical in
noncomputable def mIn (k : Nat) (n : MG) (c : MT) (m : ME) (g : Gd) : List D -> Ls -> Hd -> Option (Ls × Hd)
  | [], ls, hd => some (ls, hd)
  | d :: r, ls, hd => (n d ls hd).bind λ ls1 => (c ls1 hd).bind λ p => if p.1 = true then (m ls1 p.2).bind λ q => (fAppend (.mu k) [q.1] q.2).bind λ z => if GOk z.2 g then mIn k n c m g r ls1 z.2 else none else if GOk p.2 g then mIn k n c m g r ls1 p.2 else none
open Classical in
noncomputable def mOut (k : Nat) (n : MG) (c : MT) (mi : MI) (n2 : MG) (c2 : MT) (m : ME) (g : Gd) : List D -> Ls -> Hd -> Option Hd
  | [], ls, hd => some hd
  | d :: r, ls, hd => (n d ls hd).bind λ ls1 => (c ls1 hd).bind λ p => if p.1 = true then (mi ls1 p.2).bind λ q => (mIn k n2 c2 m q.1.2 q.1.1 ls1 q.2).bind λ z => if GOk z.2 g then mOut k n c mi n2 c2 m g r z.1 z.2 else none else if GOk p.2 g then mOut k n c mi n2 c2 m g r ls1 p.2 else none
noncomputable def mComp2 (j : Nat) (ix : List Nat) (mi : MI) (n : MG) (c : MT) (mi2 : MI) (n2 : MG) (c2 : MT) (m : ME) : ME := λ ls hd => (mi ls hd).bind λ p => (mOut p.2.length n c mi2 n2 c2 m p.1.2 p.1.1 (captD j ix ls) (p.2 ++ [.lst []])).map λ h => (.mu p.2.length, h)
section
variable {K : PySem.W.Frag} {ρ : List Addr} {H : Hp} {hd : Hd}
end
end L2
namespace L2
open PySem PySem.Spec PyProof.Rows
open Classical in
noncomputable def mCat (ma mb : ME) : MA := λ ls hd => (ma ls hd).bind λ p => (mb ls p.2).bind λ q => match p.1, q.1 with
  | .mu i, .mu j => match q.2[i]?, q.2[j]? with
    | some (.lst xs), some (.lst ys) => if fits (xs.length + ys.length) then some (xs ++ ys, q.2) else none
    | _, _ => none
  | _, _ => none
theorem rn_cat {K : PySem.W.Frag} {ta tb : TE} {ma mb : ME} (ha : RE K ta ma) (hb : RE K tb mb) : RN K (tOp rCat ta tb) (mCat ma mb) := by
  intro ρ σ H hd ls Q d hd' hR hL hm hQ
  obtain ⟨⟨d1, h1⟩, e1, hm⟩ := Option.bind_eq_some_iff.mp hm
  obtain ⟨⟨d2, h2⟩, e2, hm⟩ := Option.bind_eq_some_iff.mp hm
  dsimp only at hm
  split at hm
  . next i j =>
    split at hm
    . next xs ys q1 q2 =>
      split at hm
      . next c =>
        cases hm
        refine ha ρ σ H hd ls _ _ h1 hR hL e1 λ ρ1 H1 v x1 R1 r1 => ?_
        refine hb ρ1 σ H1 h1 ls _ _ _ R1 (hL.ext hR x1) e2 λ ρ2 H2 u x2 R2 r2 => ?_
        have r1' := r1.ext R1 x2
        simp only [RD] at r1' r2
        obtain ⟨a, ka, rfl⟩ := r1'
        obtain ⟨b, kb, rfl⟩ := r2
        obtain ⟨vs, f1, f2⟩ := R2.lst ka q1
        obtain ⟨us, f3, f4⟩ := R2.lst kb q2
        refine ⟨a, b, vs, us, rfl, rfl, f1, f3, by rw [f2.len, f4.len]; exact c, λ p hp => ?_⟩
        obtain ⟨R3, x3⟩ := R2.hid (ho := .lst (vs ++ us)) hp
        have x12 := x1.trans R1 x2
        exact hQ ρ2 _ p _ (x12.trans R2 x3) R3 (x12.none hR hp R2) (R2.out hp) upd_same ((f2.app f4).ext R2 x3)
      . cases hm
    . cases hm
  . cases hm
theorem qn_cat (K : PySem.W.Frag) {X : Cx} {a b : Expr} {pos : Pos} {ta tb : TE} {ma mb : ME} (ha : QE K X a ta ma) (hb : QE K X b tb mb) : QN K X (.BinOp a .Add b pos) (tOp rCat ta tb) (mCat ma mb) := ⟨pe_op op_cat ha.p hb.p, rn_cat ha.r hb.r⟩
@[simp] theorem ev_comp2 (j : Nat) (ix : List Nat) (mi mi2 : MI) (n n2 : MG) (c c2 : MT) (m : ME) (ls : Ls) (hd : Hd) : mComp2 j ix mi n c mi2 n2 c2 m ls hd = (mi ls hd).bind λ p => (mOut p.2.length n c mi2 n2 c2 m p.1.2 p.1.1 (captD j ix ls) (p.2 ++ [.lst []])).map λ h => (.mu p.2.length, h) := rfl
end L2
namespace L2
open PySem PySem.Spec PyProof.Rows PySem.W
section
variable (r : Nat -> Int) (n : Nat)
def PWp {α : Type} : KasT α -> (α -> Prop) -> Prop
  | .ret a, Q => Q a
  | .ask i j k, Q => i < n /\ j < n /\ PWp (k (decide (r i < r j))) Q
def kv (p : Array Nat) (i : Nat) : Int := r (p.getD i 0)
def STo (p : Array Nat) (m : Nat) : Prop := ∀ i j, i <= j -> j < m -> kv r p i <= kv r p j
def DTo (p : Array Nat) (m : Nat) : Prop := ∀ i j, i <= j -> j < m -> kv r p j <= kv r p i
def EqL (p : Array Nat) (m q : Nat) : Prop := ∀ k, m - (q + 1) <= k -> k < m -> kv r p k = kv r p (m - 1)
def PAr (p : Array Nat) : Prop := p.Perm (List.range n).toArray
end
section
variable {r : Nat -> Int} {n : Nat}
theorem PWp.bind {α β : Type} {f : α -> KasT β} {Q : β -> Prop} : ∀ {t : KasT α}, PWp r n t (λ a => PWp r n (f a) Q) -> PWp r n (t.bind f) Q
  | .ret _, h => h
  | .ask i j k, h => ⟨h.1, h.2.1, PWp.bind h.2.2⟩
theorem PWp.mono {α : Type} {Q Q' : α -> Prop} : ∀ {t : KasT α}, PWp r n t Q -> (∀ a, Q a -> Q' a) -> PWp r n t Q'
  | .ret _, h, q => q _ h
  | .ask i j k, h, q => ⟨h.1, h.2.1, PWp.mono h.2.2 q⟩
theorem PWp.wp {α : Type} {cmp : Nat -> Nat -> (Bool -> Shared -> Prop) -> Shared -> Prop} {P : Shared -> Prop} {Q : α -> Shared -> Prop} (hc : ∀ i j C s, i < n -> j < n -> P s -> (∀ s', P s' -> C (decide (r i < r j)) s') -> cmp i j C s) : ∀ {t : KasT α} {s : Shared}, PWp r n t (λ a => ∀ s, P s -> Q a s) -> P s -> t.kasWp cmp Q s
  | .ret _, s, h, p => h s p
  | .ask i j k, s, h, p => hc i j _ s h.1 h.2.1 p λ s' p' => PWp.wp hc h.2.2 p'
theorem PAr.size {p : Array Nat} (h : PAr n p) : p.size = n := by have := h.size_eq; simpa using this
theorem PAr.lt {p : Array Nat} (h : PAr n p) {i : Nat} (hi : i < n) : p.getD i 0 < n := by
  have hs := h.size
  have hi' : i < p.size := by omega
  have : p[i] ∈ (List.range n).toArray := h.mem_iff.mp (Array.getElem_mem hi')
  have e : p.getD i 0 = p[i] := by simp [Array.getD, hi']
  rw [e]
  simpa using this
theorem kv_rev {p : Array Nat} {i j : Nat} (hj : j <= p.size) (k : Nat) : kv r (kas_rev p i j) k = if i <= k /\ k < j then kv r p (i + j - 1 - k) else kv r p k := by
  unfold kv kas_rev
  simp only [Array.getD_eq_getD_getElem?]
  rw [getElem?_mirror_all hj]
  split <;> rfl
theorem PAr.rev {p : Array Nat} (h : PAr n p) (i j : Nat) : PAr n (kas_rev p i j) := (mirror_perm _ _ _ _).trans h
theorem kv_same {p : Array Nat} {m q : Nat} (hj : m <= p.size) (hq : q + 1 <= m) (h : EqL r p m q) (k : Nat) : kv r (kas_rev p (m - (q + 1)) m) k = kv r p k := by
  rw [kv_rev hj]
  split
  . next c => rw [h _ (by omega) (by omega), h k c.1 c.2]
  . rfl
theorem asc_ok {p : Array Nat} (pa : PAr n p) : ∀ (f m : Nat), 1 <= m -> m + f <= n -> STo r p m -> PWp r n (kas_asc p f m) λ m' => m <= m' /\ m' <= m + f /\ STo r p m' /\ (m' < m + f -> kv r p m' < kv r p (m' - 1))
  | 0, m, h1, hn, hs => ⟨Nat.le_refl _, Nat.le_refl _, hs, λ h => by omega⟩
  | f + 1, m, h1, hn, hs => by
    refine ⟨pa.lt (by omega), pa.lt (by omega), ?_⟩
    by_cases c : r (p.getD m 0) < r (p.getD (m - 1) 0)
    . rw [decide_eq_true c]
      exact ⟨Nat.le_refl _, by omega, hs, λ _ => c⟩
    . rw [decide_eq_false c]
      refine (asc_ok pa f (m + 1) (by omega) (by omega) ?_).mono λ m' h => ⟨by omega, by omega, h.2.2.1, λ z => h.2.2.2 (by omega)⟩
      intro i j hij hj
      by_cases e : j < m
      . exact hs i j hij e
      . have : j = m := by omega
        subst this
        by_cases e2 : i = j
        . subst e2; exact Int.le_refl _
        . have := hs i (j - 1) (by omega) (by omega)
          have : kv r p (j - 1) <= kv r p j := by unfold kv; omega
          omega
theorem dto_snoc {p : Array Nat} {m : Nat} (h1 : 1 <= m) (h : DTo r p m) (c : kv r p m <= kv r p (m - 1)) : DTo r p (m + 1) := by
  intro i j hij hj
  by_cases e : j < m
  . exact h i j hij e
  . have : j = m := by omega
    subst this
    by_cases e2 : i = j
    . subst e2; exact Int.le_refl _
    . have := h i (j - 1) (by omega) (by omega)
      omega
theorem desc_ok : ∀ (f : Nat) (p : Array Nat) (m q : Nat), PAr n p -> 1 <= m -> q + 1 <= m -> m + f <= n -> DTo r p m -> EqL r p m q ->
    PWp r n (kas_desc f p m q) λ z => PAr n z.1 /\ m <= z.2.1 /\ z.2.1 <= m + f /\ DTo r z.1 z.2.1 /\ EqL r z.1 z.2.1 z.2.2 /\ z.2.2 + 1 <= z.2.1
  | 0, p, m, q, pa, h1, hq, hn, hd, he => ⟨pa, Nat.le_refl _, Nat.le_refl _, hd, he, hq⟩
  | f + 1, p, m, q, pa, h1, hq, hn, hd, he => by
    refine ⟨pa.lt (by omega), pa.lt (by omega), ?_⟩
    have sz := pa.size
    by_cases c : r (p.getD m 0) < r (p.getD (m - 1) 0)
    . rw [decide_eq_true c]
      have c' : kv r p m <= kv r p (m - 1) := by unfold kv; omega
      dsimp only
      rw [if_pos rfl]
      by_cases hq0 : q > 0
      . rw [if_pos hq0]
        have sm := kv_same (r := r) (p := p) (m := m) (q := q) (by omega) hq he
        refine (desc_ok f _ (m + 1) 0 (pa.rev _ _) (by omega) (by omega) (by omega) ?_ ?_).mono λ z h => ⟨h.1, by omega, by omega, h.2.2.2⟩
        . have := dto_snoc h1 hd c'
          intro i j a b
          rw [sm, sm]; exact this i j a b
        . intro k a b
          have : k = m := by omega
          subst this; rfl
      . rw [if_neg hq0]
        refine (desc_ok f p (m + 1) 0 pa (by omega) (by omega) (by omega) (dto_snoc h1 hd c') ?_).mono λ z h => ⟨h.1, by omega, by omega, h.2.2.2⟩
        intro k a b
        have : k = m := by omega
        subst this; rfl
    . rw [decide_eq_false c]; dsimp only; rw [if_neg Bool.false_ne_true]
      refine ⟨pa.lt (by omega), pa.lt (by omega), ?_⟩
      by_cases d : r (p.getD (m - 1) 0) < r (p.getD m 0)
      . rw [decide_eq_true d]
        exact ⟨pa, Nat.le_refl _, by show m <= m + (f + 1); omega, hd, he, hq⟩
      . rw [decide_eq_false d]; dsimp only; rw [if_neg Bool.false_ne_true]
        have e : kv r p m = kv r p (m - 1) := by unfold kv; omega
        refine (desc_ok f p (m + 1) (q + 1) pa (by omega) (by omega) (by omega) (dto_snoc h1 hd (by omega)) ?_).mono λ z h => ⟨h.1, by omega, by omega, h.2.2.2⟩
        intro k a b
        by_cases e2 : k = m
        . subst e2; rfl
        . have := he k (by omega) (by omega)
          have e3 : m + 1 - 1 = m := rfl
          rw [e3]; omega
def Run (z : Nat × Array Nat) (r : Nat -> Int) (n : Nat) : Prop := PAr n z.2 /\ 1 <= z.1 /\ z.1 <= n /\ STo r z.2 z.1
theorem tail3_ok {p : Array Nat} {m : Nat} (pa : PAr n p) (h1 : 1 <= m) (hn : m <= n) (hd : DTo r p m) : PWp r n (kas_tail3 m n p) λ z => Run z r n := by
  have sz := pa.size
  have st : STo r (kas_rev p 0 m) m := by
    intro i j a b
    rw [kv_rev (by omega), kv_rev (by omega), if_pos ⟨by omega, by omega⟩, if_pos ⟨by omega, by omega⟩]
    exact hd _ _ (by omega) (by omega)
  refine PWp.bind ((asc_ok (pa.rev 0 m) (n - m) m h1 (by omega) st).mono λ m' h => ?_)
  exact ⟨pa.rev 0 m, by show 1 <= m'; omega, by show m' <= n; omega, h.2.2.1⟩
theorem descPart_ok {p : Array Nat} {m : Nat} (pa : PAr n p) (hn : m + 1 <= n) (hd : DTo r p (m + 1)) : PWp r n (kas_descPart m n p) λ z => Run z r n := by
  refine PWp.bind ((desc_ok (n - (m + 1)) p (m + 1) 0 pa (by omega) (by omega) (by omega) hd ?_).mono λ z h => ?_)
  . intro k a b
    have : k = m := by omega
    subst this; rfl
  . obtain ⟨a, b, c, d, e, g⟩ := h
    have sz := a.size
    by_cases hq : z.2.2 > 0
    . rw [if_pos hq]
      have sm := kv_same (r := r) (p := z.1) (m := z.2.1) (q := z.2.2) (by omega) g e
      exact tail3_ok (a.rev _ _) (by omega) (by omega) λ i j x y => by rw [sm, sm]; exact d i j x y
    . rw [if_neg hq]
      exact tail3_ok a (by omega) (by omega) d
theorem count_ok (h1 : 1 <= n) : PWp r n (kas_count n (List.toArray (List.range n))) λ z => Run z r n := by
  have pa : PAr n (List.range n).toArray := .refl _
  have sz := pa.size
  refine PWp.bind ((asc_ok pa (n - 1) 1 (by omega) (by omega) λ i j a b => ?_).mono λ m h => ?_)
  . have : i = j := by omega
    subst this; exact Int.le_refl _
  . obtain ⟨a, b, c, d⟩ := h
    by_cases e : (m == n) = true
    . rw [if_pos e]
      have : m = n := by simpa using e
      exact ⟨pa, by show 1 <= m; omega, by show m <= n; omega, c⟩
    . rw [if_neg e]
      have hne : m ≠ n := by simpa using e
      have dd := d (by omega)
      by_cases h2 : m > 1
      . rw [if_pos h2]
        refine ⟨pa.lt (by omega), pa.lt (by omega), ?_⟩
        by_cases g : r ((List.range n).toArray.getD 0 0) < r ((List.range n).toArray.getD (m - 1) 0)
        . rw [decide_eq_true g]
          exact ⟨pa, by show 1 <= m; omega, by show m <= n; omega, c⟩
        . rw [decide_eq_false g]; dsimp only; rw [if_neg Bool.false_ne_true]
          have g' : kv r (List.range n).toArray (m - 1) <= kv r (List.range n).toArray 0 := by unfold kv; omega
          have eq : ∀ k, k < m -> kv r (List.range n).toArray k = kv r (List.range n).toArray 0 := λ k hk => by
            have x1 := c 0 k (by omega) hk
            have x2 := c k (m - 1) (by omega) (by omega)
            omega
          have rv : ∀ k, kv r (kas_rev (List.range n).toArray 0 m) k = kv r (List.range n).toArray k := λ k => by
            rw [kv_rev (by omega)]
            split
            . next z => rw [eq _ (by omega), eq k z.2]
            . rfl
          refine descPart_ok (pa.rev 0 m) (by omega) λ i j x y => ?_
          rw [rv, rv]
          by_cases z : j < m
          . rw [eq i (by omega), eq j z]; exact Int.le_refl _
          . have : j = m := by omega
            subst this
            by_cases z2 : i = j
            . subst z2; exact Int.le_refl _
            . rw [eq i (by omega)]
              have := eq (j - 1) (by omega)
              omega
      . rw [if_neg h2]
        have : m = 1 := by omega
        subst this
        refine descPart_ok pa (by omega) λ i j x y => ?_
        by_cases z : i = j
        . subst z; exact Int.le_refl _
        . have : i = 0 := by omega
          have : j = 1 := by omega
          subst i j
          have : kv r (List.range n).toArray 1 < kv r (List.range n).toArray 0 := dd
          omega
theorem place_ok {p : Array Nat} {k : Nat} (pa : PAr n p) (hk : k < n) (hs : STo r p k) : ∀ (f l q : Nat), l <= q -> q <= k -> q - l <= f -> (∀ i, i < l -> kv r p i <= kv r p k) -> (∀ i, q <= i -> i < k -> kv r p k < kv r p i) ->
    PWp r n (kas_place p k f l q) λ m => m <= k /\ (∀ i, i < m -> kv r p i <= kv r p k) /\ ∀ i, m <= i -> i < k -> kv r p k < kv r p i
  | 0, l, q, a, b, c, d, e => ⟨by omega, d, λ i x y => e i (by omega) y⟩
  | f + 1, l, q, a, b, c, d, e => by
    unfold kas_place
    by_cases h : l >= q
    . rw [if_pos h]
      exact ⟨by omega, d, λ i x y => e i (by omega) y⟩
    . rw [if_neg h]
      refine ⟨pa.lt (by omega), pa.lt (by omega), ?_⟩
      by_cases g : r (p.getD k 0) < r (p.getD ((l + q) / 2) 0)
      . rw [decide_eq_true g]; dsimp only; rw [if_pos rfl]
        have g' : kv r p k < kv r p ((l + q) / 2) := g
        refine place_ok pa hk hs f l ((l + q) / 2) (by omega) (by omega) (by omega) d λ i x y => ?_
        have := hs ((l + q) / 2) i x y
        omega
      . rw [decide_eq_false g]; dsimp only; rw [if_neg Bool.false_ne_true]
        have g' : kv r p ((l + q) / 2) <= kv r p k := by unfold kv; omega
        refine place_ok pa hk hs f ((l + q) / 2 + 1) q (by omega) (by omega) (by omega) (λ i x => ?_) e
        have := hs i ((l + q) / 2) (by omega) (by omega)
        omega
theorem kv_bubble {p : Array Nat} {k d : Nat} (hk : k < p.size) (hd : d <= k) (i : Nat) : kv r (bubble p k d) i = if i = k - d then kv r p k else if k - d < i /\ i <= k then kv r p (i - 1) else kv r p i := by
  unfold kv
  simp only [Array.getD_eq_getD_getElem?]
  rw [getElem?_bubble hk d hd]
  split
  . rfl
  . split <;> rfl
theorem bin_ok : ∀ (f : Nat) (p : Array Nat) (k : Nat), PAr n p -> k + f = n -> STo r p k -> PWp r n (kas_bin f p k) λ z => PAr n z /\ STo r z n
  | 0, p, k, pa, e, hs => ⟨pa, by have : k = n := by omega
                                  subst this; exact hs⟩
  | f + 1, p, k, pa, e, hs => by
    have sz := pa.size
    refine PWp.bind ((place_ok pa (by omega) hs k 0 k (by omega) (by omega) (by omega) (λ i h => by omega) (λ i a b => by omega)).mono λ m h => ?_)
    obtain ⟨a, b, c⟩ := h
    refine bin_ok f _ (k + 1) ((bubble_perm _ _ _).trans pa) (by omega) λ i j x y => ?_
    rw [kv_bubble (by omega) (by omega), kv_bubble (by omega) (by omega)]
    have ek : k - (k - m) = m := by omega
    rw [ek]
    repeat' split
    . exact Int.le_refl _
    . exact Int.le_of_lt (c _ (by omega) (by omega))
    . omega
    . exact b _ (by omega)
    . exact hs _ _ (by omega) (by omega)
    . omega
    . exact b _ (by omega)
    . exact hs _ _ (by omega) (by omega)
    . exact hs _ _ (by omega) (by omega)
theorem sort_ok (h1 : 1 <= n) : PWp r n (kas_sort n) λ p => PAr n p /\ STo r p n := by
  refine PWp.bind ((count_ok h1).mono λ z h => ?_)
  obtain ⟨a, b, c, d⟩ := h
  by_cases e : z.1 < n
  . rw [if_pos e]
    have : max z.1 1 = z.1 := by omega
    rw [this]
    exact bin_ok _ _ _ a (by omega) d
  . rw [if_neg e]
    have : z.1 = n := by omega
    exact ⟨a, this ▸ d⟩
end
end L2
namespace L2
open PySem PySem.Spec PyProof.Rows PySem.W
def PairAt (h : Heap) (v : Value) (p : Int × Int) : Prop := ∃ (x : Addr) (o : Obj) (t u : Tok) (k : Nat), v = .ref x /\ h.get? x = some o /\ o.cls = .type "tuple" /\ o.data = .seq #[.int p.1 t, .int p.2 u] k
def pkey (p : Int × Int) : Int := p.1 * 4000000000 + p.2
def pok (p : Int × Int) : Prop := -1000000000 <= p.1 /\ p.1 <= 1000000000 /\ -1000000000 <= p.2 /\ p.2 <= 1000000000
section
variable {prog : Program} {w : World} {A : Around} {E : Value -> Shared -> Prop} {s : Shared}
theorem lt_pair {x y : Value} {p q : Int × Int} {C : Bool -> Shared -> Prop} (hx : PairAt s.heap x p) (hy : PairAt s.heap y q) (op : pok p) (oq : pok q) (h : C (decide (pkey p < pkey q)) s) :
    wpAny (model prog w) A (keyLt' (tuples' true) x y) C E s := by
  obtain ⟨a, o, t, u, k, rfl, ho, hc, hd⟩ := hx
  obtain ⟨a2, o2, t2, u2, k2, rfl, ho2, hc2, hd2⟩ := hy
  obtain ⟨p1, p2⟩ := p
  obtain ⟨q1, q2⟩ := q
  unfold pok at op oq
  unfold pkey at h
  dsimp only at op oq h
  refine kat_lt ho hd ho2 hd2 ?_
  refine kat_cons (wpAny_eqBool_int ?_)
  by_cases e1 : p1 = q1
  . have b1 : (p1 == q1) = true := by simp [e1]
    rw [b1]
    refine kat_yes (kat_cons (wpAny_eqBool_int ?_))
    by_cases e2 : p2 = q2
    . have b2 : (p2 == q2) = true := by simp [e2]
      rw [b2]
      refine kat_yes (kat_nil ?_)
      have : decide (p1 * 4000000000 + p2 < q1 * 4000000000 + q2) = false := decide_eq_false (by omega)
      rw [this] at h
      exact h
    . have b2 : (p2 == q2) = false := by simp [e2]
      rw [b2]
      refine kat_no (kat_one _ _ (lt_int ?_))
      have : decide (p1 * 4000000000 + p2 < q1 * 4000000000 + q2) = decide (p2 < q2) := decide_eq_decide.mpr (by omega)
      rw [this] at h
      exact h
  . have b1 : (p1 == q1) = false := by simp [e1]
    rw [b1]
    refine kat_no (oneLt_int ?_)
    have : decide (p1 * 4000000000 + p2 < q1 * 4000000000 + q2) = decide (p1 < q1) := decide_eq_decide.mpr (by omega)
    rw [this] at h
    exact h
theorem tups_of {h : Heap} : ∀ {vs : List Value} {ps : List (Int × Int)}, vs.length = ps.length -> (∀ (i : Nat) (v : Value) (p : Int × Int), vs[i]? = some v -> ps[i]? = some p -> PairAt h v p) -> ∃ fs, KatTups h vs fs /\ fs.length = vs.length /\ ∀ f ∈ fs, ∃ i t, f = .int i t
  | [], [], _, _ => ⟨[], .nil, rfl, λ _ z => by cases z⟩
  | v :: vs, p :: ps, hl, hp => by
    obtain ⟨fs, a, b, c⟩ := tups_of (vs := vs) (ps := ps) (by simpa using hl) λ i v q e1 e2 => hp (i + 1) v q (by simpa using e1) (by simpa using e2)
    obtain ⟨x, o, t, u, k, rfl, ho, hc, hd⟩ := hp 0 v p rfl rfl
    exact ⟨.int p.1 t :: fs, .cons ho hc hd rfl a, by simp [b], λ f hf => by
      rcases List.mem_cons.mp hf with rfl | hf
      . exact ⟨_, _, rfl⟩
      . exact c f hf⟩
def SortsTo (vs : List Value) (ps : List (Int × Int)) (out : List Value) : Prop := ∃ zs : List (Value × (Int × Int)), zs.Perm (vs.zip ps) /\ (zs.map λ z => pkey z.2).Pairwise (· <= ·) /\ out = zs.map (·.1)
theorem sorts_out {vs : List Value} {ps : List (Int × Int)} (hl : vs.length = ps.length) {p : Array Nat} (pa : PAr vs.length p) (hs : STo (λ i => pkey (ps.getD i (0, 0))) p vs.length) : SortsTo vs ps (p.toList.map λ i => vs.getD i Value.none) := by
  have sz := pa.size
  refine ⟨p.toList.map λ i => (vs.getD i Value.none, ps.getD i (0, 0)), ?_, ?_, by rw [List.map_map]; rfl⟩
  . have e : vs.zip ps = (List.range vs.length).map λ i => (vs.getD i Value.none, ps.getD i (0, 0)) := by
      refine List.ext_getElem? λ i => ?_
      by_cases hi : i < vs.length
      . have hi2 : i < ps.length := by omega
        rw [(List.getElem?_zip_eq_some (z := (vs[i], ps[i]))).mpr ⟨by simp [hi], by simp [hi2]⟩]
        simp [hi, hi2]
      . rw [List.getElem?_eq_none (by simp; omega), List.getElem?_eq_none (by simp; omega)]
    rw [e]
    have := Array.perm_iff_toList_perm.mp pa
    simpa using this.map _
  . rw [List.map_map, List.pairwise_iff_getElem]
    intro i j hi hj hij
    simp only [List.length_map, Array.length_toList] at hi hj
    have := hs i j (by omega) (by omega)
    unfold kv at this
    simpa [Array.getD, hi, hj] using this
theorem sort_pairs {a : Addr} {vs : List Value} {ps : List (Int × Int)} {n : Nat} {P : PySem.Fin -> Shared -> Prop} (ho : s.heap.get? a = some (seqObj "list" vs.toArray n)) (hl : vs.length = ps.length) (h64 : vs.length < 64) (hok : ∀ p ∈ ps, pok p)
    (hp : ∀ (i : Nat) (v : Value) (p : Int × Int), vs[i]? = some v -> ps[i]? = some p -> PairAt (s.heap.update a (Obj.mapSeq λ _ => #[])) v p)
    (h : ∀ out : List Value, SortsTo vs ps out -> P (.done (.ret .none)) { s with heap := sortedHeap s.heap a vs out.toArray }) :
    wpAny (model prog w) A (Builtin.«list.sort» ⟨[.ref a], []⟩) P E s := by
  have ha := Heap.lt_size ho
  have line : vs.length <= sizeLine := by rw [sizeLine_eq]; omega
  obtain ⟨e1, ho1⟩ : ∃ e1, (s.heap.update a (Obj.mapSeq λ _ => #[])).get? a = some (seqObj "list" #[] e1) := ⟨_, get?_update_seq ho _⟩
  rw [list_sort_plain]
  refine wpAny_bind (listItems_at ho rfl (wpAny_bind (listUpdate_at ho rfl (wpAny_bind (seqEpoch_at ho1 rfl (wpAny_bind (wpAny_newTuple (wpAny_bind (wpAny_newList (wpAny_holding ?_) (Nat.zero_le _))) line)))) (by rw [List.size_toArray]; exact line) (Nat.zero_le _))))
  have grow : ∀ b o, (s.heap.update a (Obj.mapSeq λ _ => #[])).get? b = some o -> (((s.heap.update a (Obj.mapSeq λ _ => #[])).push (seqObj "tuple" vs.toArray 0)).push (seqObj "list" #[] 0)).get? b = some o := λ b o e => Heap.get?_push_of_some _ (Heap.get?_push_of_some _ e)
  have ho6 := grow _ _ ho1
  generalize h6 : ((s.heap.update a (Obj.mapSeq λ _ => #[])).push (seqObj "tuple" vs.toArray 0)).push (seqObj "list" #[] 0) = hp6 at *
  have done : ∀ out : List Value, SortsTo vs ps out -> P (.done (.ret .none)) { s with heap := hp6.update a (Obj.mapSeq λ _ => out.toArray) } := λ out z => by
    have := h out z
    unfold sortedHeap at this
    rw [h6] at this
    exact this
  show wpAny (model prog w) A _ P E { s with heap := hp6 }
  dsimp only
  have pairs6 : ∀ (i : Nat) (v : Value) (p : Int × Int), vs[i]? = some v -> ps[i]? = some p -> PairAt hp6 v p := λ i v p x y => by
    obtain ⟨x', o, t, u, k, e, q, c, d⟩ := hp i v p x y
    exact ⟨x', o, t, u, k, e, grow _ _ q, c, d⟩
  by_cases h2 : vs.toArray.size < 2
  . rw [if_pos h2, if_pos h2]
    refine wpAny_bind (wpAny_pure ?_)
    rw [StateT.run_pure]
    refine wpAny_bind (wpAny_pure ?_)
    dsimp only
    have hout : (arrOf (SortSt.mk' general' (vs.toArray.zip vs.toArray) #[] 7 none)).map (·.2) = vs.toArray := by
      show (vs.toArray.zip vs.toArray).map (·.2) = vs.toArray
      apply Array.toList_inj.mp
      simp only [Array.toList_map, Array.toList_zip]
      exact List.map_snd_zip (Nat.le_refl _)
    rw [hout]
    refine wpAny_bind (seqEpoch_at ho6 rfl (wpAny_bind (listUpdate_at ho6 rfl ?_ (Nat.zero_le _) (by rw [List.size_toArray]; omega))))
    simp only [bne_self_eq_false, Bool.false_eq_true, if_false]
    refine wpAny_pure (done vs ⟨vs.zip ps, .refl _, ?_, ?_⟩)
    . have hz : (vs.zip ps).length < 2 := by simp at h2 ⊢; omega
      cases hh : vs.zip ps with
      | nil => exact .nil
      | cons z r =>
        cases r with
        | nil => exact List.pairwise_singleton _ _
        | cons y t => rw [hh] at hz; exact absurd hz (by simp)
    . rw [List.map_fst_zip (by omega)]
  . rw [if_neg h2, if_neg h2]
    have h2' : 2 <= vs.length := by simp at h2; omega
    obtain ⟨fs, t1, t2, t3⟩ := tups_of hl pairs6
    have tT : ∀ f ∈ fs, Looks (model prog w) hp6 (typeOf f) (Value.type "int") := λ f hf => by
      obtain ⟨i, t, rfl⟩ := t3 f hf
      exact .of_pure rfl
    refine wpAny_bind (kat_kind (s := { s with heap := hp6 }) t1 (by omega) tT rfl ?_)
    have est : SortSt.mk' (tuples' true) (vs.toArray.zip vs.toArray) #[] 7 none = kas_st (tuples' true) (pairsOf vs) (List.toArray (List.range vs.length)) := by
      unfold kas_st
      rw [<- pairsOf_size vs, kas_range]
      rfl
    have ask : (kas_sort vs.length).kasWp (kas_cmp prog w A (tuples' true) (pairsOf vs)) (λ p s' => s' = { s with heap := hp6 } /\ SortsTo vs ps (p.toList.map λ i => vs.getD i Value.none)) { s with heap := hp6 } := by
      rw [<- kas_ask_eq]
      refine PWp.wp (n := vs.length) (r := λ i => pkey (ps.getD i (0, 0))) (P := λ s' => s' = { s with heap := hp6 }) (λ i j C s' hi hj e hC => ?_) ((sort_ok (by omega)).mono λ p z s' e => ⟨e, sorts_out hl z.1 z.2⟩) rfl
      subst e
      have pi : ps[i]? = some (ps.getD i (0, 0)) := by simp [show i < ps.length by omega]
      have pj : ps[j]? = some (ps.getD j (0, 0)) := by simp [show j < ps.length by omega]
      have vi : vs[i]? = some (vs.getD i Value.none) := by simp [hi]
      have vj : vs[j]? = some (vs.getD j Value.none) := by simp [hj]
      exact lt_pair (s := { s with heap := hp6 }) (pairs6 i _ _ vi pi) (pairs6 j _ _ vj pj) (hok _ (List.mem_of_getElem? pi)) (hok _ (List.mem_of_getElem? pj)) (hC _ rfl)
    have run := kas_runs (E := E) (Q := λ _ st' s' => ∃ p : Array Nat, p.size = vs.length /\ arrOf st' = p.map (kas_item (pairsOf vs)) /\ failedOf st' = none /\ s' = { s with heap := hp6 } /\ SortsTo vs ps (p.toList.map λ i => vs.getD i Value.none)) h2' h64 (λ p st' s' x1 x2 x3 x4 => ⟨p, x1, x2, x3, x4⟩) ask
    rw [<- est] at run
    refine wpAny_bind (wpAny_mono run ?_ λ _ _ e => e)
    rintro ⟨⟨⟩, st'⟩ s' ⟨p, hsz, har, hf, rfl, so⟩
    dsimp only
    have hout : (arrOf st').map (·.2) = (p.toList.map λ i => vs.getD i Value.none).toArray := by
      rw [har]
      apply Array.toList_inj.mp
      simp only [Array.toList_map, List.map_map]
      exact List.map_congr_left λ i _ => congrArg Prod.snd (kas_item_eq vs i)
    rw [hout]
    refine wpAny_bind (seqEpoch_at ho6 rfl (wpAny_bind (listUpdate_at ho6 rfl ?_ (Nat.zero_le _) (by simp [hsz]; omega))))
    rw [hf]
    simp only [bne_self_eq_false, Bool.false_eq_true, if_false]
    exact wpAny_pure (done _ so)
end
end L2
namespace L2
open PySem PySem.Spec PyProof.Rows PySem.W
theorem PairAt.keep {h h' : Heap} {v : Value} {p : Int × Int} (k : ∀ b o, h.get? b = some o -> h'.get? b = some o) (q : PairAt h v p) : PairAt h' v p := by
  obtain ⟨x, o, t, u, n, e, ho, c, d⟩ := q
  exact ⟨x, o, t, u, n, e, k _ _ ho, c, d⟩
section
variable {prog : Program} {w : World} {A : Around} {E : Value -> Shared -> Prop} {s : Shared}
theorem sorted_pairs {l : Addr} {vs : List Value} {ps : List (Int × Int)} {Q : Value -> Shared -> Prop} (hl : s.heap.IsList l vs.toArray) (hlen : vs.length = ps.length) (h64 : vs.length < 64) (hok : ∀ p ∈ ps, pok p)
    (hp : ∀ (i : Nat) (v : Value) (p : Int × Int), vs[i]? = some v -> ps[i]? = some p -> PairAt s.heap v p)
    (h : ∀ out : List Value, SortsTo vs ps out -> Q (.ref (s.heap.objs.size + 1)) { s with heap := sortedAll s.heap vs out.toArray }) :
    wpAny (model prog w) A (call (.builtin "sorted") [.ref l]) Q E s := by
  have line : vs.length <= sizeLine := by rw [sizeLine_eq]; omega
  refine Calls.call_function_entry kind_sorted plain_sorted entry_sorted (args_sorted1 _) ?_
  unfold Builtin.«sorted»
  refine wpAny_bind (m := checkCount "sorted" 1 1 _) (wpAny_pure (wpAny_bind (collect_list hl (wpAny_bind (wpAny_newList ?_ line)) line)))
  have sz : ((s.heap.push (seqObj "list" #[] 0)).update s.heap.objs.size (Obj.mapSeq (· ++ vs.toArray))).objs.size = s.heap.objs.size + 1 := by rw [Heap.size_update, size_push']
  have at1 : (((s.heap.push (seqObj "list" #[] 0)).update s.heap.objs.size (Obj.mapSeq (· ++ vs.toArray))).push (seqObj "list" vs.toArray 0)).get? (s.heap.objs.size + 1) = some (seqObj "list" vs.toArray 0) := by
    have := Heap.get?_push_size ((s.heap.push (seqObj "list" #[] 0)).update s.heap.objs.size (Obj.mapSeq (· ++ vs.toArray))) (o := seqObj "list" vs.toArray 0) rfl
    rwa [sz] at this
  have old : ∀ b o, s.heap.get? b = some o -> ((((s.heap.push (seqObj "list" #[] 0)).update s.heap.objs.size (Obj.mapSeq (· ++ vs.toArray))).push (seqObj "list" vs.toArray 0)).update (s.heap.objs.size + 1) (Obj.mapSeq λ _ => #[])).get? b = some o := λ b o e => by
    have lt := Heap.lt_size e
    rw [Heap.get?_update_ne _ _ _ _ (Nat.ne_of_lt (Nat.lt_succ_of_lt lt)), Heap.get?_push_ne _ _ _ (by rw [sz]; exact Nat.ne_of_lt (Nat.lt_succ_of_lt lt)), Heap.get?_update_ne _ _ _ _ (Nat.ne_of_lt lt), Heap.get?_push_ne _ _ _ (Nat.ne_of_lt lt)]
    exact e
  show wpAny _ _ _ _ _ { s with heap := ((s.heap.push (seqObj "list" #[] 0)).update s.heap.objs.size (Obj.mapSeq (· ++ vs.toArray))).push (seqObj "list" vs.toArray 0) }
  rw [sz]
  refine wpAny_bind (wpAny_holding (wpAny_call_entry slot_list_sort ⟨_, at1, rfl⟩ entry_list_sort (sort_pairs at1 hlen h64 hok (λ i v p a b => (hp i v p a b).keep old) λ out z => ⟨_, rfl, ?_⟩) (args_list_sort _)))
  exact wpAny_pure ⟨_, rfl, h out z⟩
end
section
variable (K : PySem.W.Frag) {X : Cx}
def rSortedP : List V -> Hp -> VK -> Prop := λ xs H Q => ∃ (a : Addr) (us : List V) (ps : List (Int × Int)), xs = [.ref a] /\ SqL K H a us /\ us.length = ps.length /\ us.length < 64 /\ (∀ q ∈ ps, pok q) /\
  (∀ (i : Nat) (u : V) (q : Int × Int), us[i]? = some u -> ps[i]? = some q -> ∃ x, u = .ref x /\ SqT K H x [.int q.1, .int q.2]) /\
  ∀ (p : Addr) (zs : List (V × (Int × Int))), H p = none -> zs.Perm (us.zip ps) -> (zs.map λ z => pkey z.2).Pairwise (· <= ·) -> Q (.ref p) (upd H p (.lst (zs.map (·.1))))
def refV : Value -> V
  | .ref x => .ref x
  | _ => .non
theorem vals_get : ∀ {us : List V} {its : List Value} {i : Nat} {u : V}, Vals us its -> us[i]? = some u -> ∃ v, its[i]? = some v /\ RelV u v
  | _, _, _, _, .nil, h => by simp at h
  | _ :: _, _ :: _, 0, _, .cons r _, h => by
    simp at h; subst h; exact ⟨_, rfl, r⟩
  | _ :: _, _ :: _, i + 1, _, .cons _ t, h => vals_get (i := i) t (by simpa using h)
theorem call_sortedP (hK : X.K = K := by rfl) : CallR X (.builtin "sorted") (rSortedP K) := by
  subst hK
  intro pins s σ H xs us0 Q I r h
  obtain ⟨a, us, ps, rfl, hq, hlen, h64, hok, hpr, q⟩ := h
  obtain ⟨u, rfl, ru⟩ := vals1 r
  cases ru
  obtain ⟨its, rv, p, hz⟩ := I.list hq
  have hl2 : us.length = its.length := rv.length
  have point : ∀ (i : Nat) (v : Value) (q : Int × Int), its[i]? = some v -> ps[i]? = some q -> (∃ x, us[i]? = some (.ref x) /\ v = .ref x) /\ PairAt s.heap v q := by
    intro i v q e1 e2
    have hi : i < us.length := by rw [hl2]; exact (List.getElem?_eq_some_iff.mp e1).1
    have eu : us[i]? = some us[i] := by simp [hi]
    obtain ⟨x, ex, sq⟩ := hpr i _ q eu e2
    obtain ⟨v', ev, rel⟩ := vals_get rv eu
    rw [e1] at ev
    cases ev
    rw [ex] at rel eu
    have rel : v = Value.ref x := rel
    subst rel
    refine ⟨⟨x, eu, rfl⟩, ?_⟩
    obtain ⟨jts, rj, ⟨o, ho, hc, n, hd⟩, _⟩ := I.tuple sq
    cases rj with
    | cons r1 t1 =>
      cases t1 with
      | cons r2 t2 =>
        cases t2
        obtain ⟨t, rfl⟩ := r1
        obtain ⟨t', rfl⟩ := r2
        exact ⟨x, o, t, t', n, rfl, ho, hc, hd⟩
  refine sorted_pairs (ps := ps) p.isList (by omega) (by omega) hok (λ i v q a b => (point i v q a b).2) λ out z => ?_
  obtain ⟨zs, pm, pw, rfl⟩ := z
  obtain ⟨e, he⟩ := sortedAll_at s.heap its (zs.map (·.1)).toArray
  have mz : ∀ z ∈ zs, ∃ x, z.1 = .ref x := λ z hz => by
    have := pm.mem_iff.mp hz
    obtain ⟨i, hi⟩ := List.mem_iff_getElem?.mp this
    obtain ⟨e1, e2⟩ := List.getElem?_zip_eq_some.mp hi
    obtain ⟨⟨x, _, ex⟩, _⟩ := point i _ _ e1 e2
    exact ⟨x, ex⟩
  have vz : ∀ {zs : List (Value × (Int × Int))}, (∀ z ∈ zs, ∃ x, z.1 = .ref x) -> Vals (zs.map λ z => refV z.1) (zs.map (·.1)) := by
    intro zs
    induction zs with
    | nil => intro _; exact .nil
    | cons z r ih =>
      intro h
      obtain ⟨x, ex⟩ := h z List.mem_cons_self
      refine .cons ?_ (ih λ y hy => h y (List.mem_cons_of_mem _ hy))
      show RelV (refV z.1) z.1
      rw [ex]; rfl
  have pm2 : (zs.map λ z => (refV z.1, z.2)).Perm (us.zip ps) := by
    have := pm.map λ z : Value × (Int × Int) => (refV z.1, z.2)
    have e : ((its.zip ps).map λ z : Value × (Int × Int) => (refV z.1, z.2)) = us.zip ps := by
      refine List.ext_getElem? λ i => ?_
      by_cases hi : i < us.length
      . have h1 : i < its.length := by omega
        have h2 : i < ps.length := by omega
        have e1 : its[i]? = some its[i] := by simp [h1]
        have e2 : ps[i]? = some ps[i] := by simp [h2]
        obtain ⟨⟨x, ex, ev⟩, _⟩ := point i _ _ e1 e2
        rw [List.getElem?_map, (List.getElem?_zip_eq_some (z := (its[i], ps[i]))).mpr ⟨e1, e2⟩, (List.getElem?_zip_eq_some (z := (V.ref x, ps[i]))).mpr ⟨ex, e2⟩, Option.map_some, ev]
        rfl
      . rw [List.getElem?_eq_none (by simp; omega), List.getElem?_eq_none (by simp; omega)]
    rwa [e] at this
  have pw2 : ((zs.map λ z => (refV z.1, z.2)).map λ z : V × (Int × Int) => pkey z.2).Pairwise (· <= ·) := by rw [List.map_map]; exact pw
  have fin := q (s.heap.objs.size + 1) _ (I.hok.fresh (Nat.le_succ _)) pm2 pw2
  have em : (zs.map λ z => (refV z.1, z.2)).map (·.1) = zs.map λ z => refV z.1 := by rw [List.map_map]; rfl
  rw [em] at fin
  have zl : zs.length < 64 := by rw [pm.length_eq]; simp; omega
  refine ⟨.ref (s.heap.objs.size + 1), _, I.laid (a := s.heap.objs.size + 1) (o := .lst (zs.map λ z => refV z.1)) (t' := s.toks) (λ b o hb => sortedAll_old hb) (Nat.le_succ _) ⟨?_, _, e, vz mz, he⟩, rfl, fin⟩
  rw [List.length_map]
  exact Nat.le_of_lt (small1000 (by omega))
end
def pairD (p : Int × Int) : D := .im (.tup [.int p.1, .int p.2])
def pairsD : List D -> Option (List (Int × Int))
  | [] => some []
  | .im (.tup [.int a, .int b]) :: r => (pairsD r).map ((a, b) :: ·)
  | _ => none
theorem pairsD_eq : ∀ {ds : List D} {ps : List (Int × Int)}, pairsD ds = some ps -> ds = ps.map pairD := by
  intro ds
  induction ds with
  | nil => intro ps h; simp [pairsD] at h; subst h; rfl
  | cons d r ih =>
    intro ps h
    unfold pairsD at h
    split at h
    . next e => cases e
    . next a b r' e =>
      cases e
      obtain ⟨qs, e1, rfl⟩ := Option.map_eq_some_iff.mp h
      rw [ih e1]
      rfl
    . cases h
@[simp] theorem pairsD_map (ps : List (Int × Int)) : pairsD (ps.map pairD) = some ps := by
  induction ps with
  | nil => rfl
  | cons p r ih => simp [pairsD, pairD] at ih ⊢; exact ih
def sortP (ps : List (Int × Int)) : List (Int × Int) := ps.mergeSort λ a b => decide (pkey a <= pkey b)
theorem sortP_perm (ps : List (Int × Int)) : (sortP ps).Perm ps := List.mergeSort_perm ..
theorem sortP_sorted (ps : List (Int × Int)) : (sortP ps).Pairwise λ a b => pkey a <= pkey b := by
  have := List.pairwise_mergeSort (le := λ a b : Int × Int => decide (pkey a <= pkey b)) (by intro a b c h1 h2; simp at *; omega) (by intro a b; simp; omega) ps
  exact this.imp (by simp)
theorem pkey_inj {p q : Int × Int} (a : pok p) (b : pok q) (h : pkey p = pkey q) : p = q := by
  unfold pok at a b
  unfold pkey at h
  exact Prod.ext (by omega) (by omega)
open Classical in
noncomputable def mSortedP (m : MI) : MA := λ ls hd => (m ls hd).bind λ p => (pairsD p.1.1).bind λ ps => if ps.length < 64 /\ ∀ q ∈ ps, pok q then some ((sortP ps).map pairD, p.2) else none
section
variable {K : PySem.W.Frag} {ρ : List Addr} {H : Hp} {hd : Hd}
theorem rd_pair {p : Int × Int} {v : V} (h : RD K ρ H (pairD p) v) : ∃ x, v = .ref x /\ SqT K H x [.int p.1, .int p.2] := by
  simp only [pairD, RD, RI, RIs] at h
  obtain ⟨a, xs, rfl, q, x, r, rfl, rfl, y, r2, rfl, rfl, rfl⟩ := h
  exact ⟨a, rfl, q⟩
theorem rn_sortedP {t : TE} {m : MI} (h : RRw K false t m) : RN K (tCB (rSortedP K) (tCons t tNil)) (mSortedP m) := by
  intro ρ σ H hd ls Q d hd' hR hL hm hQ
  obtain ⟨⟨⟨d1, g1⟩, h1⟩, e1, hm⟩ := Option.bind_eq_some_iff.mp hm
  obtain ⟨ps, e2, hm⟩ := Option.bind_eq_some_iff.mp hm
  split at hm
  . next c =>
    cases hm
    refine h ρ σ H hd ls _ d1 g1 _ hR hL e1 λ ρ1 H1 a x1 R1 G1 S1 => ?_
    obtain ⟨xs, q, r⟩ := S1 ρ1 H1 _ .refl R1 G1
    have e2 : pairsD d1 = some ps := e2
    rw [pairsD_eq e2] at r
    have hl : xs.length = ps.length := by simpa using r.len
    have each : ∀ (i : Nat) (u : V) (q : Int × Int), xs[i]? = some u -> ps[i]? = some q -> RD K ρ1 H1 (pairD q) u := λ i u q a b => by
      obtain ⟨x, e, z⟩ := r.get (i := i) (d := pairD q) (by simp [b])
      rw [a] at e; cases e; exact z
    refine ⟨a, xs, ps, rfl, q, hl, by rw [hl]; exact c.1, c.2, λ i u q a b => rd_pair (each i u q a b), λ p zs hp pm pw => ?_⟩
    have es : zs.map (·.2) = sortP ps := by
      have pp : (zs.map (·.2)).Perm ps := by
        have := pm.map (λ z : V × (Int × Int) => z.2)
        rwa [List.map_snd_zip (by omega)] at this
      refine (pp.trans (sortP_perm ps).symm).eq_of_pairwise (le := λ a b => pkey a <= pkey b) (λ x y hx hy l1 l2 => pkey_inj (c.2 _ (pp.mem_iff.mp hx)) (c.2 _ ((sortP_perm ps).mem_iff.mp hy)) (Int.le_antisymm l1 l2)) ?_ (sortP_sorted ps)
      rw [List.pairwise_map] at pw ⊢
      exact pw
    obtain ⟨R2, x2⟩ := R1.hid (ho := .lst (zs.map (·.1))) hp
    have all : ∀ z ∈ zs, RD K ρ1 H1 (pairD z.2) z.1 := λ z hz => by
      obtain ⟨i, hi⟩ := List.mem_iff_getElem?.mp (pm.mem_iff.mp hz)
      obtain ⟨a1, a2⟩ := List.getElem?_zip_eq_some.mp hi
      exact each i _ _ a1 a2
    have rd : ∀ {zs : List (V × (Int × Int))}, (∀ z ∈ zs, RD K ρ1 H1 (pairD z.2) z.1) -> RDs K ρ1 H1 ((zs.map (·.2)).map pairD) (zs.map (·.1)) := by
      intro zs
      induction zs with
      | nil => intro _; exact .nil
      | cons z r ih => intro h; exact .cons (h z List.mem_cons_self) (ih λ y hy => h y (List.mem_cons_of_mem _ hy))
    have rz := rd all
    rw [es] at rz
    exact hQ ρ1 _ p _ (x1.trans R1 x2) R2 (x1.none hR hp R1) (R1.out hp) upd_same (rz.ext R1 x2)
  . cases hm
open Classical in
noncomputable def fPopAt : D -> List D -> Hd -> Option (D × Hd)
  | .mu n, [.im (.int i)], hd => match hd[n]? with
    | some (.lst ds) => if rng1 i then (ixN ds.length i).bind λ k => (ds[k]?).map λ y => (y, hd.set n (.lst (ds.eraseIdx k))) else none
    | _ => none
  | _, _, _ => none
theorem RDs.erase : ∀ {ds : List D} {xs : List V} (k : Nat), RDs K ρ H ds xs -> RDs K ρ H (ds.eraseIdx k) (xs.eraseIdx k)
  | [], _, _, h => by simp only [RDs] at h; subst h; simp [RDs]
  | d :: ds, _, 0, h => by simp only [RDs] at h; obtain ⟨x, r, rfl, _, t⟩ := h; simpa using t
  | d :: ds, _, k + 1, h => by
    simp only [RDs] at h
    obtain ⟨x, r, rfl, a, t⟩ := h
    simpa using RDs.cons a (RDs.erase k t)
end
end L2
namespace L2
open PySem PySem.Spec PyProof.Rows PySem.W
section
variable (K : PySem.W.Frag) {X : Cx} {e : Expr} {te : TE} {p pos : Pos}
theorem qn_sortedP {mi : MI} (hm : X.mg "sorted" = none) (ha : QR K false X e te mi) (hg : Gl X "sorted" := by rfl) (he : starEach [e] X.env = [(false, eval e X.env)] := by rfl) (hK : X.K = K := by rfl) : QN K X (.Call (.Name "sorted" p) [e] [] pos) (tCB (rSortedP K) (tCons te tNil)) (mSortedP mi) :=
  ⟨pe_callB (call_sortedP K hK) hg hm bt_sorted (pa_cons ha.p pa_nil he) (by decide) (by decide) he rfl, rn_sortedP ha.r⟩
end
section
variable {ls : Ls} {hd : Hd}
open Classical in
@[simp] theorem ev_popAt (k : Nat) (i : Int) : fPopAt (.mu k) [.im (.int i)] hd = match hd[k]? with
    | some (.lst ds) => if rng1 i then (ixN ds.length i).bind λ j => (ds[j]?).map λ y => (y, hd.set k (.lst (ds.eraseIdx j))) else none
    | _ => none := rfl
open Classical in
@[simp] theorem ev_sortedP (mi : MI) : mSortedP mi ls hd = (mi ls hd).bind λ p => (pairsD p.1.1).bind λ ps => if ps.length < 64 /\ ∀ q ∈ ps, pok q then some ((sortP ps).map pairD, p.2) else none := rfl
end
end L2
namespace L2
open PySem PySem.Spec PyProof.Rows PySem.W
section
variable {m : ME} {ls : Ls} {hd hd' : Hd}
end
end L2
namespace L2
open PySem PySem.Spec PyProof.Rows PySem.W
end L2
namespace L2
open PySem PySem.Spec PyProof.Rows
section
variable {prog : Program} {w : World} {A : Around} {R : Result -> Shared -> Prop} {s : Shared}
end
section
variable {X : Cx}
end
end L2
namespace L2
open PySem PySem.Spec PyProof.Rows
section
variable {K : PySem.W.Frag} {ρ ρ' : List Addr} {H H' : Hp} {hd hd' : Hd}
variable (K : PySem.W.Frag) {X : Cx}
variable {a b : Expr} {ta tb : TE} {ma mb : ME} {pos : Pos}
end
end L2
namespace L2
open PySem PySem.Spec PyProof.Rows
def WP {α : Type} (o : Option (α × Hd)) (Q : α -> Hd -> Prop) : Prop := ∃ z h, o = some (z, h) /\ Q z h
abbrev WS (m : MS) (ls : Ls) (hd : Hd) (Q : Fl -> Hd -> Prop) : Prop := WP (m ls hd) Q
abbrev WE (m : ME) (ls : Ls) (hd : Hd) (Q : D -> Hd -> Prop) : Prop := WP (m ls hd) Q
abbrev WT (m : MT) (ls : Ls) (hd : Hd) (Q : Bool -> Hd -> Prop) : Prop := WP (m ls hd) Q
abbrev WA (m : MA) (ls : Ls) (hd : Hd) (Q : List D -> Hd -> Prop) : Prop := WP (m ls hd) Q
abbrev WI (m : MI) (ls : Ls) (hd : Hd) (Q : List D × Gd -> Hd -> Prop) : Prop := WP (m ls hd) Q
abbrev WF (F : List D -> Hd -> Option (D × Hd)) (ds : List D) (hd : Hd) (Q : D -> Hd -> Prop) : Prop := WP (F ds hd) Q
section
variable {α β : Type} {o : Option (α × Hd)} {Q : α -> Hd -> Prop} {R : β -> Hd -> Prop} {ls : Ls} {hd : Hd} {d e : D}
theorem WP.some {z : α} {h : Hd} (q : Q z h) : WP (some (z, h)) Q := ⟨z, h, rfl, q⟩
theorem WP.mono {Q' : α -> Hd -> Prop} (h : WP o Q) (k : ∀ z h, Q z h -> Q' z h) : WP o Q' := let ⟨z, x, e, q⟩ := h; ⟨z, x, e, k z x q⟩
theorem WP.bind {f : α × Hd -> Option (β × Hd)} (h : WP o λ z x => WP (f (z, x)) R) : WP (o.bind f) R := by
  obtain ⟨z, x, e, q⟩ := h
  rw [e]; exact q
theorem WP.eq {z : α} {h : Hd} (e : o = Option.some (z, h)) (q : Q z h) : WP o Q := ⟨z, h, e, q⟩
theorem WP.map {f : α -> β} (h : WP o λ z x => R (f z) x) : WP (o.map λ p => (f p.1, p.2)) R := by
  obtain ⟨z, x, e, q⟩ := h
  rw [e]; exact ⟨_, _, rfl, q⟩
end
section
variable {ls : Ls} {hd : Hd} {a b : MS} {ma mb mc : ME} {ta tb : MT} {m m1 m2 : MA} {n : MG} {ns : MGs} {mi : MI} {d e : D} {i j : Nat} {QS : Fl -> Hd -> Prop} {QE : D -> Hd -> Prop} {QT : Bool -> Hd -> Prop} {QA : List D -> Hd -> Prop} {QO : Option Int -> Hd -> Prop} {QI : List D × Gd -> Hd -> Prop}
def thenS (b : MS) (Q : Fl -> Hd -> Prop) : Fl -> Hd -> Prop
  | .nx l, h => WS b l h Q
  | f, h => Q f h
theorem ws_seq (h : WS a ls hd (thenS b QS)) : WS (mSeq a b) ls hd QS := by
  obtain ⟨f, x, e, q⟩ := h
  show WP (mSeq a b ls hd) QS
  rw [ev_seq, e]
  cases f <;> first | exact q | exact ⟨_, _, rfl, q⟩
theorem thenS_nx {l : Ls} {h : Hd} (q : WS b l h QS) : thenS b QS (.nx l) h := q
theorem ws_next (h : QS (.nx ls) hd) : WS mNext ls hd QS := ⟨_, _, rfl, h⟩
theorem ws_ret (h : WE ma ls hd λ d x => QS (.rt d) x) : WS (mRet ma) ls hd QS := WP.bind (h.mono λ _ _ q => WP.some q)
theorem ws_set (h : WE ma ls hd λ d x => QS (.nx (ls.set i (some d))) x) : WS (mSet i ma) ls hd QS := by
  obtain ⟨d, x, e, q⟩ := h
  exact ⟨_, _, by simp only [ev_asg, e, Option.bind_some, ev_name, Option.map_some], q⟩
theorem ws_asg (h : WE ma ls hd λ d x => ∃ l, n d ls x = some l /\ QS (.nx l) x) : WS (mAsg ma n) ls hd QS := by
  obtain ⟨d, x, e, l, e2, q⟩ := h
  exact ⟨_, _, by simp only [ev_asg, e, Option.bind_some, e2, Option.map_some], q⟩
theorem ws_drop (h : WE ma ls hd λ _ x => QS (.nx ls) x) : WS (mDrop ma) ls hd QS := WP.bind (h.mono λ _ _ q => WP.some q)
theorem ws_if (h : WT ta ls hd λ c x => if c = true then WS a ls x QS else WS b ls x QS) : WS (mIfS ta a b) ls hd QS := by
  refine WP.bind (h.mono λ c x q => ?_)
  dsimp only
  cases c <;> simpa using q
theorem ws_ifn (h : WT ta ls hd λ c x => (c = true -> WS a ls x QS) /\ (c = false -> WS b ls x QS)) : WS (mIfS ta a b) ls hd QS :=
  ws_if (h.mono λ c x q => by cases c <;> simp_all)
def WL (n : MG) (b : MS) (g : Gd) (ds : List D) (ls : Ls) (hd : Hd) (Q : Fl -> Hd -> Prop) : Prop := WP (mLoop n b g ds ls hd) Q
theorem ws_for (h : WI mi ls hd λ p x => WL n b p.2 p.1 ls x QS) : WS (mFor mi n b) ls hd QS := WP.bind (h.mono λ _ _ q => q)
def turnS (g : Gd) (P : Ls -> Hd -> Prop) (Q : Fl -> Hd -> Prop) : Fl -> Hd -> Prop
  | .nx l, h => GOk h g /\ P l h
  | .ct l, h => GOk h g /\ P l h
  | .bk l, h => Q (.nx l) h
  | .rt d, h => Q (.rt d) h
theorem wl_inv {g : Gd} (P : List D -> Ls -> Hd -> Prop) : ∀ {ds : List D} {ls : Ls} {hd : Hd}, P ds ls hd ->
    (∀ d r ls hd, P (d :: r) ls hd -> ∃ ls1, n d ls hd = some ls1 /\ WS b ls1 hd (turnS g (P r) QS)) -> (∀ ls hd, P [] ls hd -> QS (.nx ls) hd) -> WL n b g ds ls hd QS
  | [], ls, hd, h, _, z => ⟨_, _, by unfold mLoop; rfl, z _ _ h⟩
  | d :: r, ls, hd, h, k, z => by
    obtain ⟨ls1, e1, f, x, e2, q⟩ := k d r ls hd h
    unfold WL
    unfold mLoop
    rw [e1, Option.bind_some, e2, Option.bind_some]
    cases f with
    | nx l => exact (show GOk x g /\ P r l x from q).1 |> λ g1 => by dsimp only; rw [if_pos g1]; exact wl_inv P q.2 k z
    | ct l => exact (show GOk x g /\ P r l x from q).1 |> λ g1 => by dsimp only; rw [if_pos g1]; exact wl_inv P q.2 k z
    | bk l => exact ⟨_, _, rfl, q⟩
    | rt l => exact ⟨_, _, rfl, q⟩
theorem we_var (h : ls[i]? = some (some d)) (q : QE d hd) : WE (mVar i) ls hd QE := ⟨d, hd, by rw [ev_var, h], q⟩
theorem we_c {i : I} (q : QE (.im i) hd) : WE (mC i) ls hd QE := ⟨_, _, rfl, q⟩
theorem we_op {f : D -> D -> Hd -> Option (D × Hd)} (h : WE ma ls hd λ d x => WE mb ls x λ e y => WP (f d e y) QE) : WE (mOp f ma mb) ls hd QE := WP.bind (h.mono λ _ _ q => WP.bind (q.mono λ _ _ q => q))
theorem we_if (h : WT ta ls hd λ c x => if c = true then WE ma ls x QE else WE mb ls x QE) : WE (mIf ta ma mb) ls hd QE := by
  refine WP.bind (h.mono λ c x q => ?_)
  dsimp only
  cases c <;> simpa using q
theorem we_ifn (h : WT ta ls hd λ c x => (c = true -> WE ma ls x QE) /\ (c = false -> WE mb ls x QE)) : WE (mIf ta ma mb) ls hd QE :=
  we_if (h.mono λ c x q => by cases c <;> simp_all)
theorem we_tup (h : WA m ls hd λ ds x => fits ds.length /\ QE (mkTup ds) x) : WE (mTup m) ls hd QE := WP.bind (h.mono λ ds x q => by dsimp only; rw [if_pos q.1]; exact WP.some q.2)
theorem we_new (h : WA m ls hd λ ds x => QE (.mu x.length) (x ++ [.lst ds])) : WE (mNew m) ls hd QE := WP.bind (h.mono λ _ _ q => WP.some q)
theorem we_hid {g : List D -> Option D} (h : WA m ls hd λ ds x => ∃ d, g ds = some d /\ QE d x) : WE (mHid g m) ls hd QE := by
  obtain ⟨ds, x, e, d, e2, q⟩ := h
  exact ⟨d, x, by simp only [ev_hid, e, Option.bind_some, e2, Option.map_some], q⟩
theorem we_ixH (h : WA m ls hd λ ds x => WE ma ls x λ e y => ∃ i d, e = .im (.int i) /\ atI ds i = some d /\ QE d y) : WE (mIxH m ma) ls hd QE := by
  obtain ⟨ds, x, e, d, y, e2, i, z, rfl, e4, q⟩ := h
  exact ⟨z, y, by simp only [ev_ixH, e, Option.bind_some, e2, e4, Option.map_some], q⟩
theorem we_cb {f : List D -> Hd -> Option (D × Hd)} (h : WA m ls hd λ ds x => WP (f ds x) QE) : WE (mCB f m) ls hd QE := WP.bind (h.mono λ _ _ q => q)
theorem we_mt {f : D -> List D -> Hd -> Option (D × Hd)} (h : WE ma ls hd λ d x => (∃ l, lstView x d = some l) /\ WA m ls x λ ds y => WP (f d ds y) QE) : WE (mMt f ma m) ls hd QE := by
  obtain ⟨d, x, e, ⟨l, hl⟩, q⟩ := h
  unfold WE
  rw [ev_mt, e, Option.bind_some]
  dsimp only
  rw [hl]
  exact WP.bind (q.mono λ _ _ q => q)
theorem we_callG {F : List D -> Hd -> Option (D × Hd)} (h : WA m ls hd λ ds x => WF F ds x QE) : WE (mCallG F m) ls hd QE := WP.bind (h.mono λ _ _ q => q)
theorem we_neg (h : WE ma ls hd λ d x => ∃ i, d = .im (.int i) /\ QE (.im (.int (-i))) x) : WE (mNeg ma) ls hd QE := by
  obtain ⟨d, x, e, i, rfl, q⟩ := h
  exact ⟨_, x, by simp only [ev_neg, e, Option.bind_some], q⟩
theorem we_andV (h : WT (mTest ma) ls hd λ c x => if c = true then WE mb ls x QE else QE (.im (.bl false)) x) : WE (mAndV ma mb) ls hd QE := by
  refine WP.bind (h.mono λ c x q => ?_)
  dsimp only
  cases c
  . exact WP.some (by simpa using q)
  . simpa using q
theorem we_orV (h : WT (mTest ma) ls hd λ c x => if c = true then QE (.im (.bl true)) x else WE mb ls x QE) : WE (mOrV ma mb) ls hd QE := by
  refine WP.bind (h.mono λ c x q => ?_)
  dsimp only
  cases c
  . simpa using q
  . exact WP.some (by simpa using q)
theorem wt_test (h : WE ma ls hd λ d x => ∃ b, d = .im (.bl b) /\ QT b x) : WT (mTest ma) ls hd QT := by
  obtain ⟨d, x, e, b, rfl, q⟩ := h
  exact ⟨b, x, by simp only [ev_test, e, Option.bind_some], q⟩
theorem wt_tru (h : WE ma ls hd λ d x => ∃ b, truD x d = some b /\ QT b x) : WT (mTru ma) ls hd QT := by
  obtain ⟨d, x, e, b, e2, q⟩ := h
  exact ⟨b, x, by simp only [ev_tru, e, Option.bind_some, e2, Option.map_some], q⟩
theorem wt_not (h : WT ta ls hd λ c x => QT (!c) x) : WT (mNot ta) ls hd QT := WP.bind (h.mono λ _ _ q => WP.some q)
theorem wt_and (h : WT ta ls hd λ c x => if c = true then WT tb ls x QT else QT false x) : WT (mAnd ta tb) ls hd QT := by
  refine WP.bind (h.mono λ c x q => ?_)
  dsimp only
  cases c
  . exact WP.some (by simpa using q)
  . simpa using q
theorem wt_or (h : WT ta ls hd λ c x => if c = true then QT true x else WT tb ls x QT) : WT (mOr ta tb) ls hd QT := by
  refine WP.bind (h.mono λ c x q => ?_)
  dsimp only
  cases c
  . simpa using q
  . exact WP.some (by simpa using q)
theorem wt_yes (h : QT true hd) : WT mYes ls hd QT := ⟨_, _, rfl, h⟩
theorem wa_nil (h : QA [] hd) : WA mNil ls hd QA := ⟨_, _, rfl, h⟩
theorem wa_cons (h : WE ma ls hd λ d x => WA m ls x λ ds y => QA (d :: ds) y) : WA (mCons ma m) ls hd QA := WP.bind (h.mono λ _ _ q => WP.bind (q.mono λ _ _ q => WP.some q))
theorem wa_lst (h : WA m ls hd λ ds x => fits ds.length /\ QA ds x) : WA (mLst m) ls hd QA := WP.bind (h.mono λ ds x q => by dsimp only; rw [if_pos q.1]; exact WP.some q.2)
theorem wi_R (h : WA m ls hd λ ds x => ∃ k, ds = [.im (.int k)] /\ rng1 k /\ QI (rangeD 0 k.toNat, []) x) : WI (mItR m) ls hd QI := by
  obtain ⟨ds, x, e, k, rfl, c, q⟩ := h
  exact ⟨_, x, by simp only [ev_itR, e, Option.bind_some, c, if_true], q⟩
theorem wi_T (h : WE ma ls hd λ d x => ∃ ds, tupView d = some ds /\ QI (ds, []) x) : WI (mItT ma) ls hd QI := by
  obtain ⟨d, x, e, ds, e2, q⟩ := h
  exact ⟨_, x, by simp only [ev_itT, e, Option.bind_some, e2, Option.map_some], q⟩
theorem wi_H (h : WA m ls hd λ ds x => QI (ds, []) x) : WI (mItH m) ls hd QI := by
  obtain ⟨ds, x, e, q⟩ := h
  exact ⟨_, x, by simp only [ev_itH, e, Option.map_some], q⟩
theorem wi_L (h : WE ma ls hd λ d x => ∃ k ds, d = .mu k /\ x[k]? = some (.lst ds) /\ QI (ds, [(k, ds)]) x) : WI (mItL ma) ls hd QI := by
  obtain ⟨d, x, e, k, ds, rfl, e2, q⟩ := h
  exact ⟨_, x, by simp only [ev_itL, e, Option.bind_some, e2], q⟩
theorem wa_comp {k : Nat} {ix : List Nat} (h : WI mi ls hd λ p x => fits p.1.length /\ WP (mCompGo n ta ma p.2 p.1 (captD k ix ls) x) QA) : WA (mComp k ix mi n ta ma) ls hd QA := WP.bind (h.mono λ p x q => by dsimp only; rw [if_pos q.1]; exact q.2)
theorem wc_inv {g : Gd} (P : List D -> List D -> Ls -> Hd -> Prop) : ∀ {ds es : List D} {ls : Ls} {hd : Hd}, P ds es ls hd ->
    (∀ d r es ls hd, P (d :: r) es ls hd -> ∃ ls1, n d ls hd = some ls1 /\ WT ta ls1 hd λ c x => if c = true then WE ma ls1 x λ z y => GOk y g /\ P r (es ++ [z]) ls1 y else GOk x g /\ P r es ls1 x) ->
    WP (mCompGo n ta ma g ds ls hd) λ zs x => ∃ ls', P [] (es ++ zs) ls' x
  | [], es, ls, hd, h, k => ⟨_, _, by unfold mCompGo; rfl, ls, by simpa using h⟩
  | d :: r, es, ls, hd, h, k => by
    obtain ⟨ls1, e1, c, x, e2, q⟩ := k d r es ls hd h
    unfold mCompGo
    rw [e1, Option.bind_some, e2, Option.bind_some]
    cases c with
    | true =>
      rw [if_pos rfl] at q ⊢
      obtain ⟨z, y, e3, g3, p3⟩ := q
      obtain ⟨zs, y2, e4, ls', p4⟩ := wc_inv P p3 k
      rw [e3, Option.bind_some]
      dsimp only
      rw [if_pos g3, e4]
      exact ⟨z :: zs, y2, rfl, ls', by simpa using p4⟩
    | false =>
      rw [if_neg Bool.false_ne_true] at q ⊢
      dsimp only
      rw [if_pos q.1]
      exact wc_inv P q.2 k
theorem wp_add {i j : Int} (q : QE (.im (.int (i + j))) hd) : WP (gAddA (.im (.int i)) (.im (.int j)) hd) QE := ⟨_, _, by simp, q⟩
theorem wp_sub {i j : Int} (q : QE (.im (.int (i - j))) hd) : WP (gSubt (.im (.int i)) (.im (.int j)) hd) QE := ⟨_, _, by simp, q⟩
theorem wp_mul {i j : Int} (c : mulOk i j) (q : QE (.im (.int (i * j))) hd) : WP (gMul (.im (.int i)) (.im (.int j)) hd) QE := ⟨_, _, by simp [c], q⟩
theorem wp_fdiv {i j : Int} (c : divOk j) (q : QE (.im (.int (i / j))) hd) : WP (gFdiv (.im (.int i)) (.im (.int j)) hd) QE := ⟨_, _, by simp [c], q⟩
theorem wp_lt {i j : Int} (q : QE (.im (.bl (decide (i < j)))) hd) : WP (gLt (.im (.int i)) (.im (.int j)) hd) QE := ⟨_, _, by simp, q⟩
theorem wp_le {i j : Int} (q : QE (.im (.bl (decide (i <= j)))) hd) : WP (gLe (.im (.int i)) (.im (.int j)) hd) QE := ⟨_, _, by simp, q⟩
theorem wp_gt {i j : Int} (q : QE (.im (.bl (decide (j < i)))) hd) : WP (gGt (.im (.int i)) (.im (.int j)) hd) QE := ⟨_, _, by simp, q⟩
theorem wp_ge {i j : Int} (q : QE (.im (.bl (decide (j <= i)))) hd) : WP (gGe (.im (.int i)) (.im (.int j)) hd) QE := ⟨_, _, by simp, q⟩
theorem wp_eqI {i j : Int} (q : QE (.im (.bl (decide (i = j)))) hd) : WP (gEq (.im (.int i)) (.im (.int j)) hd) QE := ⟨_, _, by simp, q⟩
theorem wp_neI {i j : Int} (q : QE (.im (.bl (!decide (i = j)))) hd) : WP (gNe (.im (.int i)) (.im (.int j)) hd) QE := ⟨_, _, by simp, q⟩
theorem wp_neX {i j : Str} (q : QE (.im (.bl (!decide (i = j)))) hd) : WP (gNe (.im (.str i)) (.im (.str j)) hd) QE := ⟨_, _, by simp, q⟩
theorem wp_ix {i : Int} {ds : List D} (e1 : seqView hd d = some ds) (e2 : atI ds i = some e) (q : QE e hd) : WP (gIx d (.im (.int i)) hd) QE := ⟨_, _, by rw [ev_ix, e1, Option.bind_some, e2]; rfl, q⟩
theorem wp_f1 {tp : Bool} {g : List D -> Option D} {ds : List D} {z : D} (e1 : (if tp then seqView hd d else lstView hd d) = some ds) (e2 : g ds = some z) (q : QE z hd) : WP (f1 tp g [d] hd) QE := ⟨_, _, by rw [ev_f1, e1, Option.bind_some, e2]; rfl, q⟩
theorem wp_app {k : Nat} {x : D} {ds : List D} (e1 : hd[k]? = some (.lst ds)) (c : fitsL ds.length) (q : QE (.im .non) (hd.set k (.lst (ds ++ [x])))) : WP (fAppend (.mu k) [x] hd) QE := ⟨_, _, by rw [ev_app, e1]; simp only [c, if_true], q⟩
theorem wf_mk {k n : Nat} {m : MS} {ds : List D} {Q : D -> Hd -> Prop} (hl : ds.length = k) (h : WS m (ds.map some ++ List.replicate (n - k) none) hd λ f x => match f with
    | .rt d => Q d x
    | .nx _ => Q (.im .non) x
    | _ => False) : WF (mkF k n m) ds hd Q := by
  obtain ⟨f, x, e, q⟩ := h
  unfold WF mkF
  rw [if_pos hl, e]
  cases f with
  | nx l => exact ⟨_, _, rfl, q⟩
  | rt l => exact ⟨_, _, rfl, q⟩
  | bk l => exact q.elim
  | ct l => exact q.elim
theorem we_call0 {F : List D -> Hd -> Option (D × Hd)} (h : WA m ls hd λ ds x => clDs 0 ds = true /\ WF F ds [] λ d _ => ∃ i, d = .im i /\ QE (.im i) x) : WE (mCallW 0 F m) ls hd QE := by
  obtain ⟨ds, x, e, c, d, y, e2, i, rfl, q⟩ := h
  exact ⟨_, _, callW0_im e c e2, q⟩
end
structure Tap (T : Nat -> MO -> MO -> Prop) (P : List D -> Hd -> Option (D × Hd)) : Prop where
  cl : ∀ {k : Nat} {a b : MO}, T k a b -> clO 2 a = true /\ clO 2 b = true
  le : ∀ {j k : Nat} {a b : MO}, T k a b -> j <= k -> T j a b
  pick : ∀ {k : Nat} {a b : MO} {many : Int}, T (k + 1) a b -> 0 < many -> many < 1073741824 -> ∃ r a' b', 0 <= r /\ r < many /\ P [.mu 1, .im (.int many)] [a, b] = some (.im (.int r), [a', b']) /\ T k a' b'
section
variable {T : Nat -> MO -> MO -> Prop} {P : List D -> Hd -> Option (D × Hd)} {a b : MO} {rest : Hd} {ls : Ls} {m : MA} {QE : D -> Hd -> Prop} {n c : Nat}
theorem Tap.draw (t : Tap T P) (hT : T (n + 1) a b) {many : Int} {hd : Hd} (e : m ls hd = some ([.mu 1, .im (.int many)], a :: b :: rest)) (h0 : 0 < many) (h1 : many < 1073741824)
    (k : ∀ r a' b', T n a' b' -> 0 <= r -> r < many -> QE (.im (.int r)) (a' :: b' :: rest)) : WE (mCallW 2 P m) ls hd QE := by
  obtain ⟨r, a', b', p1, p2, e2, hT'⟩ := t.pick hT h0 h1
  refine ⟨_, _, callW_im (w := 2) (ds := [.mu 1, .im (.int many)]) (pre := [a, b]) (pre' := [a', b']) (rest := rest) (g := []) rfl rfl e (by simp) ?_ ?_ (by simpa using e2), k r a' b' hT' p1 p2⟩
  . simp [t.cl hT]
  . simp [t.cl hT']
end
end L2
namespace L2
open PySem PySem.Spec PyProof.Rows
section
variable {K : PySem.W.Frag} {ρ ρ' : List Addr} {H H' : Hp} {hd hd' : Hd}
end
mutual
theorem clD_mono {v w : Nat} (h : v <= w) : ∀ {d : D}, clD v d = true -> clD w d = true
  | .im i, _ => by simp
  | .mu n, c => by simp at c ⊢; omega
  | .tm ds, c => by rw [clD] at c ⊢; exact clDs_mono h c
  | .ro ns, _ => by rw [clD]
theorem clDs_mono {v w : Nat} (h : v <= w) : ∀ {ds : List D}, clDs v ds = true -> clDs w ds = true
  | [], _ => by simp
  | d :: ds, c => by
    simp only [clDs_cons, Bool.and_eq_true] at c ⊢
    exact ⟨clD_mono h c.1, clDs_mono h c.2⟩
end
theorem clKs_mono {v w : Nat} (h : v <= w) : ∀ {ds : List (Key × D)}, clKs v ds = true -> clKs w ds = true
  | [], _ => by simp [clKs]
  | d :: ds, c => by
    simp only [clKs, Bool.and_eq_true] at c ⊢
    exact ⟨clD_mono h c.1, clKs_mono h c.2⟩
theorem clO_mono {v w : Nat} (h : v <= w) {o : MO} (c : clO v o = true) : clO w o = true := by
  cases o with
  | lst ds => exact clDs_mono h c
  | dic ds => exact clKs_mono h c
section
variable {T : Nat -> MO -> MO -> Prop} {P : List D -> Hd -> Option (D × Hd)} {a b : MO} {rest : Hd} {ls : Ls} {m : MA} {QE : D -> Hd -> Prop}
theorem Tap.callX (t : Tap T P) {n c : Nat} (hT : T (n + c) a b) (ex : Hd) {w : Nat} {F : List D -> Hd -> Option (D × Hd)} {as : List D} {hd : Hd} {R : I -> Prop} (e : m ls hd = some (.mu 1 :: as, a :: b :: (ex ++ rest))) (hw : w = ex.length + 2) (ha : clDs w as = true) (hx : ex.all (clO w) = true)
    (hF : ∀ a b, T (n + c) a b -> WF F (.mu 1 :: as) (a :: b :: ex) λ d x => ∃ i a' b' g, d = .im i /\ R i /\ T n a' b' /\ x = a' :: b' :: (ex ++ g))
    (k : ∀ i a' b', T n a' b' -> R i -> QE (.im i) (a' :: b' :: (ex ++ rest))) : WE (mCallW w F m) ls hd QE := by
  subst hw
  have hcl : ∀ o, clO 2 o = true -> clO (ex.length + 2) o = true := λ o h => clO_mono (by omega) h
  obtain ⟨d, x, e2, i, a', b', g, rfl, hR, hT', rfl⟩ := hF a b hT
  refine ⟨_, _, callW_im (w := ex.length + 2) (ds := .mu 1 :: as) (pre := a :: b :: ex) (pre' := a' :: b' :: ex) (rest := rest) (g := g) rfl rfl e (by simp [ha]) ?_ ?_ e2, k i a' b' hT' hR⟩
  . simp [hcl _ (t.cl hT).1, hcl _ (t.cl hT).2]; simpa using hx
  . simp [hcl _ (t.cl hT').1, hcl _ (t.cl hT').2]; simpa using hx
theorem Tap.call (t : Tap T P) {n c : Nat} (hT : T (n + c) a b) {F : List D -> Hd -> Option (D × Hd)} {as : List D} {hd : Hd} {R : I -> Prop} (e : m ls hd = some (.mu 1 :: as, a :: b :: rest)) (ha : clDs 2 as = true)
    (hF : ∀ a b, T (n + c) a b -> WF F (.mu 1 :: as) [a, b] λ d x => ∃ i a' b' g, d = .im i /\ R i /\ T n a' b' /\ x = a' :: b' :: g)
    (k : ∀ i a' b', T n a' b' -> R i -> QE (.im i) (a' :: b' :: rest)) : WE (mCallW 2 F m) ls hd QE :=
  t.callX hT [] (w := 2) e rfl ha rfl hF k
end
end L2
namespace L2
open PySem PySem.Spec PyProof.Rows
section
variable {ls : Ls} {hd : Hd} {b : MS} {c : MT} {Q : Fl -> Hd -> Prop} {QE : D -> Hd -> Prop}
end
end L2
namespace Bd
open PySem L2
end Bd
namespace Bd
open PySem L2
structure Tp where
  cells : List Int
  nx : Int
  lf : Int
  tn : Int
def tapeD (t : Tp) : List (Key × D) := [(.inr "cells", .mu 0), (.inr "next", .im (.int t.nx)), (.inr "left", .im (.int t.lf)), (.inr "turn", .im (.int t.tn))]
def tp (t : Tp) : Hd := [.lst (t.cells.map λ i => .im (.int i)), .dic (tapeD t)]
@[simp] theorem tp_len (t : Tp) : (tp t).length = 2 := rfl
@[simp] theorem tp_0 (t : Tp) (r : Hd) : (tp t ++ r)[0]? = some (.lst (t.cells.map λ i => .im (.int i))) := rfl
@[simp] theorem tp_1 (t : Tp) (r : Hd) : (tp t ++ r)[1]? = some (.dic (tapeD t)) := rfl
@[simp] theorem tp0 (t : Tp) : (tp t)[0]? = some (.lst (t.cells.map λ i => .im (.int i))) := rfl
@[simp] theorem tp1 (t : Tp) : (tp t)[1]? = some (.dic (tapeD t)) := rfl
section
variable (t : Tp) (v : Int)
@[simp] theorem td_len : (tapeD t).length = 4 := rfl
end
theorem pys_ints : ∀ ns : List Int, I.pys (ns.map I.int) = ns.map PyData.int
  | [] => by simp [I.pys]
  | n :: ns => by simp [I.pys, I.py, pys_ints ns]
theorem allIm_ints (ns : List Int) : allIm (ns.map λ i => D.im (.int i)) = some (ns.map I.int) := by
  have : (ns.map λ i => D.im (.int i)) = (ns.map I.int).map D.im := by rw [List.map_map]; rfl
  rw [this]; exact allIm_map _
theorem eqv_nil (ns : List Int) : PyData.eqv (.list (ns.map PyData.int)) (.list []) = decide (ns = []) := by
  cases ns <;> simp [PyData.eqv, PyData.eqvAll]
theorem lay_ints (ns : List Int) : (PyData.list (ns.map PyData.int)).canLay0 = true := by simp [PyData.canLay0, canLay_ints]
theorem cmp_nil (ns : List Int) (hd : Hd) (neg : Bool) : eqvP neg (.list (ns.map PyData.int)) (.list []) hd = some (.im (.bl (if neg then !decide (ns = []) else decide (ns = []))), hd) := by
  unfold eqvP
  rw [if_pos, eqv_nil]
  refine ⟨lay_ints ns, by simp [PyData.canLay0, PyData.canLayAll0], ?_⟩
  have : (PyData.list []).depth <= 1 := by simp [PyData.depth, PyData.depthAll]
  omega
end Bd
namespace Bd
open PySem L2
theorem modlt {x : Int} (m : Int) (h : 0 < m) : 0 <= x % m /\ x % m < m := ⟨Int.emod_nonneg _ (by omega), Int.emod_lt_of_pos _ h⟩
theorem cmp_nn (hd : Hd) (neg : Bool) : eqvP neg (.list []) (.list []) hd = some (.im (.bl (if neg then false else true)), hd) := by
  have := cmp_nil [] hd neg
  simpa using this
theorem atmod {xs : List Int} (h : xs ≠ []) (n : Int) : ∃ c, atI (xs.map λ i => D.im (.int i)) (n % (xs.length : Int)) = some (.im (.int c)) := by
  have hl : 0 < xs.length := len_pos h
  obtain ⟨a, b⟩ := modlt (x := n) (xs.length : Int) (by omega)
  obtain ⟨k, hk⟩ := Int.eq_ofNat_of_zero_le a
  have hk' : k < xs.length := by omega
  exact ⟨xs[k], at_k hk (by simp [hk'])⟩
theorem po1 : powOk 10 18 := by unfold powOk; decide
end Bd
namespace Bd
open PySem L2
inductive Cost where
  | late (d : Int) | tardy (d w : Int) | miss (d w : Int) | ends (w : Int) | steps (rows : List (Int × Int))
def stepsAt (t : Int) : List (Int × Int) -> Int -> Int
  | [], told => told
  | (b, a) :: r, told => if t < b then told else stepsAt t r a
def Cost.at : Cost -> Int -> Int
  | .late d, t => t - d
  | .tardy d w, t => if t - d <= 0 then 0 else w * (t - d)
  | .miss d w, t => if t - d <= 0 then 0 else w
  | .ends w, t => w * t
  | .steps rows, t => stepsAt t rows 0
theorem n1 : ¬ (("late" : Str) = "steps") := by decide +kernel
theorem n2 : ¬ (("tardy" : Str) = "steps") := by decide +kernel
theorem n7 : ¬ (("miss" : Str) = "ends") := by decide +kernel
theorem n10 : ¬ (("miss" : Str) = "tardy") := by decide +kernel
end Bd
namespace Bd
open PySem L2
@[simp high] theorem tp_2 (t : Tp) (x : MO) (r : Hd) : (tp t ++ (x :: r))[2]? = some x := rfl
@[simp high] theorem tp_3 (t : Tp) (x y : MO) (r : Hd) : (tp t ++ (x :: y :: r))[3]? = some y := rfl
@[simp high] theorem tp_4 (t : Tp) (x y z : MO) (r : Hd) : (tp t ++ (x :: y :: z :: r))[4]? = some z := rfl
@[simp high] theorem tps_2 (t : Tp) (x y : MO) (r : Hd) : (tp t ++ (x :: r)).set 2 y = tp t ++ (y :: r) := rfl
@[simp high] theorem tps_3 (t : Tp) (x y z : MO) (r : Hd) : (tp t ++ (x :: y :: r)).set 3 z = tp t ++ (x :: z :: r) := rfl
theorem clDs_ints (w : Nat) (ns : List Int) : clDs w (ns.map λ i => D.im (.int i)) = true := by induction ns <;> simp_all [clDs, clD]
end Bd
namespace Bd
open PySem L2
end Bd
namespace L2
end L2
namespace Bd
open PySem L2
end Bd
namespace L2
open PySem PySem.Spec PyProof.Rows
end L2
namespace Bd
open PySem L2
end Bd
namespace Bd
open PySem L2
theorem cut_ints (ns : List Int) (lo hi : Option Int) : ∃ cs : List Int, cutD (ns.map λ n => .im (.int n)) lo hi = cs.map λ n => .im (.int n) := ⟨(ns.drop _).take _, by unfold cutD; rw [List.map_take, List.map_drop]⟩
end Bd
namespace Bd
open PySem L2
abbrev natD (ks : List Nat) : List D := ks.map λ k : Nat => D.im (.int (k : Int))
end Bd
namespace Bd
open PySem L2
def Along (seq : List Nat) (ps : List (Int × Int)) : Prop := ∀ p ∈ ps, ∃ i j a b : Nat, i < j /\ seq[i]? = some a /\ seq[j]? = some b /\ p = ((a : Int), (b : Int))
end Bd
namespace Bd
open PySem L2
theorem range_natD (n : Nat) : rangeD 0 n = natD (List.range n) := by
  refine List.ext_getElem? λ i => ?_
  by_cases h : i < n
  . rw [rangeD_get h]; simp [h]
  . rw [List.getElem?_eq_none (by simp; omega), List.getElem?_eq_none (by simp; omega)]
theorem Along.pok {seq : List Nat} {n : Nat} (hp : seq.Perm (List.range n)) (hn : n <= 1000) {ps : List (Int × Int)} (h : Along seq ps) : ∀ p ∈ ps, pok p := by
  intro p hp'
  obtain ⟨i, j, a, b, _, ea, eb, rfl⟩ := h p hp'
  have ha : a < n := by simpa using hp.mem_iff.mp (List.mem_of_getElem? ea)
  have hb : b < n := by simpa using hp.mem_iff.mp (List.mem_of_getElem? eb)
  exact ⟨by show -1000000000 <= (a : Int); omega, by show (a : Int) <= 1000000000; omega, by show -1000000000 <= (b : Int); omega, by show (b : Int) <= 1000000000; omega⟩
end Bd
namespace Bd
open PySem L2
abbrev intD (xs : List Int) : List D := xs.map λ x => D.im (.int x)
theorem flat_ints (xs : List Int) : flatDs (intD xs) = some (xs.map V.int) := by
  induction xs with
  | nil => rfl
  | cons x r ih => simp [flatDs, flatI] at ih ⊢; exact ih
theorem inV_ints (x : Int) (xs : List Int) : inV (.int x) (xs.map V.int) = decide (x ∈ xs) := by
  unfold inV
  induction xs with
  | nil => simp
  | cons y r ih =>
    simp only [List.map_cons, List.any_cons, ih, List.mem_cons]
    have : eqV (V.int y) (V.int x) = decide (x = y) := by
      unfold eqV
      by_cases h : x = y
      . subst h; simp
      . have h' : ¬ y = x := λ z => h z.symm
        simp [h, h']
    rw [this, Bool.decide_or]
theorem in_ints {hd : Hd} {d : D} {xs : List Int} (x : Int) (neg : Bool) (h : seqView hd d = some (intD xs)) : gIn neg (.im (.int x)) d hd = some (.im (.bl (if neg then !decide (x ∈ xs) else decide (x ∈ xs))), hd) := by
  simp only [gIn, flatI, Option.bind_some, h, flat_ints, Option.map_some, inV_ints]
theorem g1 (hd : Hd) (x y : MO) : (hd ++ [x, y])[hd.length + 1]? = some y := by simp
theorem t1 (hd : Hd) (x y z : MO) : (hd ++ [x, y]).set (hd.length + 1) z = hd ++ [x, z] := by simp
end Bd
namespace L2
open PySem PySem.Spec PyProof.Rows
def DicI (kvs : List (Key × D)) (g : Nat -> Option Int) : Prop := ∀ k : Nat, valD kvs (.inl (k : Int)) = (g k).map λ v => .im (.int v)
theorem DicI.nil : DicI [] λ _ => none := λ k => rfl
section
variable {ls : Ls} {hd : Hd} {QE : D -> Hd -> Prop} {QI : List D × Gd -> Hd -> Prop} {ma : ME} {n : MG} {ta : MT} {mi : MI} {m : MA}
theorem wp_inL {d : D} {xs : List Int} {x : Int} {neg : Bool} (e1 : seqView hd d = some (Bd.intD xs)) (q : QE (.im (.bl (if neg then !decide (x ∈ xs) else decide (x ∈ xs)))) hd) : WP (gIn neg (.im (.int x)) d hd) QE := WP.eq (Bd.in_ints x neg e1) q
theorem wc_to {g : Gd} {QA : List D -> Hd -> Prop} (P : List D -> List D -> Ls -> Hd -> Prop) {ds : List D} {ls : Ls} {hd : Hd} (h : P ds [] ls hd)
    (k : ∀ d r es ls hd, P (d :: r) es ls hd -> ∃ ls1, n d ls hd = some ls1 /\ WT ta ls1 hd λ c x => if c = true then WE ma ls1 x λ z y => GOk y g /\ P r (es ++ [z]) ls1 y else GOk x g /\ P r es ls1 x)
    (z : ∀ es ls hd, P [] es ls hd -> QA es hd) : WP (mCompGo n ta ma g ds ls hd) QA :=
  (wc_inv P h k).mono λ zs x ⟨ls', q⟩ => z zs ls' x (by simpa using q)
theorem wc_map {α : Type} {g : Gd} {QA : List D -> Hd -> Prop} (inj : α -> D) (f : α -> Option D) (L : D -> Ls -> Prop) (l0 : Ls) {xs : List α} {hd : Hd} (hg : GOk hd g)
    (k : ∀ x ∈ xs, ∀ ls, ls = l0 ∨ (∃ d, L d ls) -> ∃ ls1, n (inj x) ls hd = some ls1 /\ L (inj x) ls1 /\ WT ta ls1 hd λ c y => y = hd /\ if c = true then ∃ z, f x = some z /\ WE ma ls1 hd λ e y => y = hd /\ e = z else f x = none)
    (q : QA (xs.filterMap f) hd) : WP (mCompGo n ta ma g (xs.map inj) l0 hd) QA := by
  have go : ∀ (xs' : List α) (ls : Ls), (∀ x ∈ xs', x ∈ xs) -> (ls = l0 ∨ ∃ d, L d ls) -> mCompGo n ta ma g (xs'.map inj) ls hd = some (xs'.filterMap f, hd) := by
    intro xs'
    induction xs' with
    | nil => intro ls _ _; unfold mCompGo; rfl
    | cons x r ih =>
      intro ls hs hl
      obtain ⟨ls1, e1, L1, c, y, e2, rfl, q⟩ := k x (hs x List.mem_cons_self) ls hl
      have ih := ih ls1 (λ z hz => hs z (List.mem_cons_of_mem _ hz)) (.inr ⟨_, L1⟩)
      rw [List.map_cons]
      unfold mCompGo
      rw [e1, Option.bind_some, e2, Option.bind_some]
      cases c with
      | true =>
        rw [if_pos rfl] at q
        obtain ⟨z, ez, e, y, e3, rfl, rfl⟩ := q
        rw [if_pos rfl, e3, Option.bind_some]
        dsimp only
        rw [if_pos hg, ih, List.filterMap_cons, ez]
        rfl
      | false =>
        rw [if_neg Bool.false_ne_true] at q
        rw [if_neg Bool.false_ne_true]
        dsimp only
        rw [if_pos hg, ih, List.filterMap_cons, q]
  exact ⟨_, _, go xs l0 (λ _ h => h) (.inl rfl), q⟩
end
end L2
namespace L2
open PySem PySem.Spec PyProof.Rows
section
variable {K : PySem.W.Frag} {ρ ρ' : List Addr} {H H' : Hp} {hd hd' : Hd}
theorem RDs.rep {ds : List D} {xs : List V} (r : RDs K ρ H ds xs) : ∀ n, RDs K ρ H (List.replicate n ds).flatten (List.replicate n xs).flatten
  | 0 => by simp [RDs]
  | n + 1 => by
    simp only [List.replicate_succ, List.flatten_cons]
    exact r.app (r.rep n)
end
section
variable {ls : Ls} {hd : Hd} {ma mb : ME} {m ml : MA} {QE : D -> Hd -> Prop} {QA : List D -> Hd -> Prop}
end
end L2
namespace L2
open PySem PySem.Spec PyProof.Rows
section
variable {ls : Ls} {hd : Hd} {ma : ME} {n n2 : MG} {c c2 : MT} {mi mi2 : MI} {QE : D -> Hd -> Prop}
end
abbrev blD (bs : List Bool) : List D := bs.map λ b => D.im (.bl b)
end L2
namespace L2
open PySem PySem.Spec PyProof.Rows
inductive Ty where
  | int | bool | str | tuple | list
  deriving DecidableEq
def Ty.nm : Ty -> String
  | .int => "int" | .bool => "bool" | .str => "str" | .tuple => "tuple" | .list => "list"
def IsT (K : PySem.W.Frag) (T : Ty) (H : Hp) (v : V) (b : Bool) : Prop :=
  (v = .non /\ b = false) ∨ (∃ x, v = .bl x /\ b = decide (T = .int ∨ T = .bool)) ∨ (∃ i, v = .int i /\ b = decide (T = .int)) ∨ (∃ x, v = .str x /\ b = decide (T = .str)) ∨
  (∃ a xs, v = .ref a /\ SqL K H a xs /\ b = decide (T = .list)) ∨ ∃ a xs, v = .ref a /\ SqT K H a xs /\ b = decide (T = .tuple)
section
variable {X : Cx} {pins : List (Addr × Obj)} {σ : St} {H : Hp} {s : Shared} {A : Around} {E : Value -> Shared -> Prop} {Q : Value -> Shared -> Prop}
theorem isT_ok {T : Ty} {v : V} {u : Value} {b : Bool} (I : Inv X pins σ H s) (r : RelV v u) (h : IsT X.K T H v b) (q : ∀ tk, Q (.bool b) { s with toks := tk }) : wpAny (model X.prog X.w) A (call (.builtin "isinstance") [u, .type T.nm]) Q E s := by
  have q0 := q s.toks
  have q1 := q (s.toks + 1)
  rcases h with ⟨rfl, rfl⟩ | ⟨x, rfl, rfl⟩ | ⟨i, rfl, rfl⟩ | ⟨x, rfl, rfl⟩ | ⟨a, xs, rfl, hl, rfl⟩ | ⟨a, xs, rfl, ht, rfl⟩
  . cases (show u = Value.none from r)
    cases T
    . exact IsiPair.NoneType_int q1
    . exact IsiPair.NoneType_bool q1
    . exact IsiPair.NoneType_str q1
    . exact IsiPair.NoneType_tuple q1
    . exact IsiPair.NoneType_list q1
  . cases (show u = Value.bool x from r)
    cases T
    . first | exact IsiPair.bool_int q0 | exact IsiPair.bool_int q1
    . first | exact IsiPair.bool_bool q0 | exact IsiPair.bool_bool q1
    . exact IsiPair.bool_str q1
    . exact IsiPair.bool_tuple q1
    . exact IsiPair.bool_list q1
  . obtain ⟨t, rfl⟩ := (show ∃ t, u = Value.int i t from r)
    cases T
    . exact IsiPair.int_int q0
    . exact IsiPair.int_bool q1
    . exact IsiPair.int_str q1
    . exact IsiPair.int_tuple q1
    . exact IsiPair.int_list q1
  . obtain ⟨t, rfl⟩ := (show ∃ t, u = Value.str x t from r)
    cases T
    . exact IsiPair.str_int q1
    . exact IsiPair.str_bool q1
    . exact IsiPair.str_str q0
    . exact IsiPair.str_tuple q1
    . exact IsiPair.str_list q1
  . cases (show u = Value.ref a from r)
    obtain ⟨its, _, ⟨o, n, e, c, _, _⟩, _⟩ := I.list hl
    cases T
    . exact IsiPair.list_int e c q1
    . exact IsiPair.list_bool e c q1
    . exact IsiPair.list_str e c q1
    . exact IsiPair.list_tuple e c q1
    . exact IsiPair.list_list e c q0
  . cases (show u = Value.ref a from r)
    obtain ⟨its, _, ⟨o, e, c, _⟩, _⟩ := I.tuple ht
    cases T
    . exact IsiPair.tuple_int e c q1
    . exact IsiPair.tuple_bool e c q1
    . exact IsiPair.tuple_str e c q1
    . exact IsiPair.tuple_tuple e c q0
    . exact IsiPair.tuple_list e c q1
end
def tIsi (K : PySem.W.Frag) (T : Ty) (te : TE) : TE := λ σ H Q => te σ H λ v H1 => ∃ b, IsT K T H1 v b /\ Q (.bl b) H1
theorem pe_isi (K : PySem.W.Frag) {X : Cx} (T : Ty) {e : Expr} {te : TE} {x : Str} {p px pos : Pos} (hm : X.mg "isinstance" = none) (hmT : X.mg x = none) (hvT : bootBuiltins x = some (.type T.nm)) (he : PE X e te)
    (hv : bootBuiltins "isinstance" = some (.builtin "isinstance")) (hK : X.K = K) (hg : Gl X "isinstance") (hgT : Gl X x) (hnT : x ≠ "__name__") (hdT : (x == ("__debug__" : Str)) = false)
    (hs : starEach [e, .Name x px] X.env = [(false, eval e X.env), (false, eval (.Name x px) X.env)]) (hs2 : starEach [.Name x px] X.env = [(false, eval (.Name x px) X.env)]) : PE X (.Call (.Name "isinstance" p) [e, .Name x px] [] pos) (tIsi K T te) := by
  subst hK
  intro pins s σ H Q I h
  refine wpAny_Call_Name_kw (ld_blt I hg hm hv ?_)
  have go : wpAny (model X.prog X.w) X.A (spliced (backTo pos (starEach [e, .Name x px] X.env))) (λ vs s₁ => wpAny (model X.prog X.w) X.A (call (.builtin "isinstance") vs) (EP X pins σ Q) X.xe s₁) X.xe s := by
    rw [hs]
    show wpAny _ _ (spliced ((false, eval e X.env) :: backTo pos [(false, eval (.Name x px) X.env)])) _ _ s
    refine Calls.spliced_cons (thn (he pins s σ H _ I h) λ u s1 ⟨v, H1, I1, r1, b, ib, q1⟩ => ?_)
    show wpAny _ _ (spliced ((false, eval (.Name x px) X.env) :: backTo pos [])) _ _ s1
    refine Calls.spliced_cons (ld_blt I1 hgT hmT hvT ?_ hnT hdT)
    refine Calls.spliced_nil ?_
    exact isT_ok I1 r1 ib λ tk => ⟨.bl b, H1, I1.tok _, rfl, q1⟩
  exact PyProof.Rows.callWith_builtin1 go (by rw [hs, hs2]) (by rw [hs2]; rfl)
section
variable {K : PySem.W.Frag} {ρ ρ' : List Addr} {H H' : Hp} {hd hd' : Hd}
def isD (T : Ty) (hd : Hd) : D -> Option Bool
  | .im .non => some false
  | .im (.bl _) => some (decide (T = .int ∨ T = .bool))
  | .im (.int _) => some (decide (T = .int))
  | .im (.str _) => some (decide (T = .str))
  | .im (.tup _) => some (decide (T = .tuple))
  | .tm _ => some (decide (T = .tuple))
  | .ro _ => some (decide (T = .list))
  | .mu n => match hd[n]? with
    | some (.lst _) => some (decide (T = .list))
    | _ => none
theorem isD_ok {T : Ty} {d : D} {v : V} {b : Bool} (hR : RH K ρ H hd) (h : RD K ρ H d v) (e : isD T hd d = some b) : IsT K T H v b := by
  cases d with
  | im i =>
    cases i with
    | non => simp only [RD, RI] at h; subst h; simp only [isD, Option.some.injEq] at e; exact .inl ⟨rfl, e.symm⟩
    | bl c => simp only [RD, RI] at h; subst h; simp only [isD, Option.some.injEq] at e; exact .inr (.inl ⟨c, rfl, e.symm⟩)
    | int c => simp only [RD, RI] at h; subst h; simp only [isD, Option.some.injEq] at e; exact .inr (.inr (.inl ⟨c, rfl, e.symm⟩))
    | str c => simp only [RD, RI] at h; subst h; simp only [isD, Option.some.injEq] at e; exact .inr (.inr (.inr (.inl ⟨c, rfl, e.symm⟩)))
    | tup is =>
      obtain ⟨a, xs, rfl, q, r⟩ := h.tup (ds := is.map .im) rfl
      simp only [isD, Option.some.injEq] at e
      exact .inr (.inr (.inr (.inr (.inr ⟨a, xs, rfl, q, e.symm⟩))))
  | tm ds =>
    obtain ⟨a, xs, rfl, q, r⟩ := h.tup (ds := ds) rfl
    simp only [isD, Option.some.injEq] at e
    exact .inr (.inr (.inr (.inr (.inr ⟨a, xs, rfl, q, e.symm⟩))))
  | ro ns =>
    obtain ⟨a, xs, rfl, q, r⟩ := h.lst hR (hd := hd) (ds := ns.map λ n => .im (.int n)) rfl
    simp only [isD, Option.some.injEq] at e
    exact .inr (.inr (.inr (.inr (.inl ⟨a, xs, rfl, q, e.symm⟩))))
  | mu n =>
    simp only [isD] at e
    split at e
    . next q =>
      cases e
      simp only [RD] at h
      obtain ⟨a, hn, rfl⟩ := h
      obtain ⟨xs, e1, e2⟩ := hR.lst hn q
      exact .inr (.inr (.inr (.inr (.inl ⟨a, xs, rfl, SqL.of e1, rfl⟩))))
    . cases e
def mIsi (T : Ty) (ma : ME) : ME := λ ls hd => (ma ls hd).bind λ p => (isD T p.2 p.1).map λ b => (.im (.bl b), p.2)
theorem re_isi {T : Ty} {te : TE} {me : ME} (h : RE K te me) : RE K (tIsi K T te) (mIsi T me) := by
  intro ρ σ H hd ls Q d hd' hR hL hm hQ
  obtain ⟨⟨d1, h1⟩, e1, hm⟩ := Option.bind_eq_some_iff.mp hm
  obtain ⟨b, e2, e3⟩ := Option.map_eq_some_iff.mp hm
  cases e3
  exact h ρ σ H hd ls _ d1 _ hR hL e1 λ ρ1 H1 v x1 R1 r1 => ⟨b, isD_ok R1 r1 e2, hQ ρ1 H1 _ x1 R1 (by simp [RD, RI])⟩
theorem bt_ty : ∀ T : Ty, bootBuiltins T.nm = some (.type T.nm)
  | .int => by decide +kernel
  | .bool => by decide +kernel
  | .str => by decide +kernel
  | .tuple => by decide +kernel
  | .list => by decide +kernel
theorem qe_isi (K : PySem.W.Frag) {X : Cx} (T : Ty) {e : Expr} {te : TE} {me : ME} {x : Str} {p px pos : Pos} (hm : X.mg "isinstance" = none) (hmT : X.mg x = none) (he : QE K X e te me) (hx : bootBuiltins x = some (.type T.nm) := by first | exact bt_ty .int | exact bt_ty .bool | exact bt_ty .str | exact bt_ty .tuple | exact bt_ty .list) (hK : X.K = K := by rfl) (hg : Gl X "isinstance" := by rfl) (hgT : Gl X x := by rfl)
    (hnT : x ≠ "__name__" := by decide) (hdT : (x == ("__debug__" : Str)) = false := by decide)
    (hs : starEach [e, .Name x px] X.env = [(false, eval e X.env), (false, eval (.Name x px) X.env)] := by rfl) (hs2 : starEach [.Name x px] X.env = [(false, eval (.Name x px) X.env)] := by rfl) : QE K X (.Call (.Name "isinstance" p) [e, .Name x px] [] pos) (tIsi K T te) (mIsi T me) :=
  ⟨pe_isi K T hm hmT hx he.p bt_isinstance hK hg hgT hnT hdT hs hs2, re_isi he.r⟩
theorem RDs.ints : ∀ {ns : List Int} {xs : List V}, RDs K ρ H (ns.map λ x => D.im (.int x)) xs -> xs = ns.map V.int
  | [], xs, h => by simpa only [RDs, List.map_nil] using h
  | n :: ns, xs, h => by
    simp only [List.map_cons, RDs, RD, RI] at h
    obtain ⟨x, r, rfl, rfl, t⟩ := h
    rw [RDs.ints t]; rfl
end
section
variable {ls : Ls} {hd : Hd} {ma mo mi me : ME} {QE : D -> Hd -> Prop} {QS : Fl -> Hd -> Prop}
theorem we_isi {T : Ty} (h : WE ma ls hd λ d x => ∃ b, isD T x d = some b /\ QE (.im (.bl b)) x) : WE (mIsi T ma) ls hd QE := by
  obtain ⟨d, x, e, b, e2, q⟩ := h
  exact ⟨_, _, by simp only [mIsi, e, Option.bind_some, e2, Option.map_some], q⟩
end
end L2
namespace L2
open PySem PySem.Spec PyProof.Rows
section
variable {X : Cx} {a : Expr} {ta : TE}
end
section
variable (K : PySem.W.Frag) {X : Cx} {a : Expr} {ta : TE} {ma : ME} {b : Bool} {j : _} {pos pos' : Pos}
end
end L2
namespace L2
open PySem PySem.Spec PyProof.Rows
structure EAt (h : Heap) (e it l : Addr) (i : Nat) : Prop where
  e : ∃ old, IsEnum h e it i old
  r : h.IsListIter it l i
def Ite (K : PySem.W.Frag) (a : Addr) : It :=
  ⟨λ i H => ∃ xs x, SqL K H a xs /\ xs[i]? = some x,
   λ i H x H' => ∃ p v, H p = none /\ H' = upd H p (.tup [.int (i : Int), v]) /\ x = .ref p /\ ∀ xs, SqL K H a xs -> xs[i]? = some v,
   λ i H => ∃ xs, SqL K H a xs /\ xs.length <= i⟩
theorem turn_enum {P : Program} {w : World} {K : PySem.W.Frag} {elts : List Expr} {kk : Nat} {tpos : Pos} {e it l : Addr} (ne : e ≠ it) : Turn P w K (.Tuple elts kk tpos) (Ite K l) [e, it] e (λ i h => EAt h e it l i) where
  mem := by simp
  obj := λ i h st c hc => by
    obtain ⟨⟨old, he⟩, hr⟩ := st
    simp only [List.mem_cons, List.not_mem_nil, or_false] at hc
    rcases hc with rfl | rfl
    . exact ⟨_, he, λ v z => by cases (show Data.fields _ = Data.cell v from z)⟩
    . obtain ⟨o, q, _, d⟩ := hr; exact ⟨o, q, λ v z => by rw [d] at z; cases z⟩
  keep := λ i h h' st k => by
    obtain ⟨⟨old, he⟩, o, q, r⟩ := st
    exact ⟨⟨old, k e (by simp) _ he⟩, o, k it (by simp) _ q, r⟩
  item := by
    intro X hP hw hK hc i pins s σ H E I hf st hg
    subst hP hw hK
    obtain ⟨xs, x, h1, hx⟩ := hg
    obtain ⟨its, r, pl, hz⟩ := I.list h1
    obtain ⟨u, hu, ru⟩ := r.get hx
    obtain ⟨⟨old, he⟩, hr⟩ := st
    refine wpAny_pyNext_enum_item he hr pl.isList (x := u) (by simpa using hu) ne λ g ho hr' ht hsz kp => ⟨_, rfl, ?_⟩
    refine wpAny_letOwnedTupleGo_enum ho λ g' e' sb => ?_
    have hle : e < s.heap.objs.size := Heap.lt_size he
    have kp2 : ∀ c o, c ∉ [e, it] -> s.heap.get? c = some o -> g'.get? c = some o := λ c o nc q => by
      simp only [List.mem_cons, List.not_mem_nil, or_false, not_or] at nc
      exact sb.extBut _ _ nc.1 (kp c o nc.1 nc.2 q)
    have hT : s.heap.objs.size ≠ e := Nat.ne_of_gt hle
    have hpair : g'.get? s.heap.objs.size = some { cls := .type "tuple", data := .seq #[.int i s.toks, u] } := sb.extBut _ _ hT ht
    have fresh : H s.heap.objs.size = none := I.hok.fresh (Nat.le_refl _)
    have I2 : Inv X pins σ (upd H s.heap.objs.size (.tup [.int (i : Int), x])) { s with heap := g', toks := s.toks + 1 } := I.turnsL (tk := s.toks + 1) (o := .tup [.int (i : Int), x]) kp2 hf (Nat.le_refl _)
      (show ObjOk X.prog X.w _ g' _ (.tup [.int (i : Int), x]) from ⟨by show 2 <= sizeLine; decide, [.int i s.toks, u], .cons ⟨_, rfl⟩ (.cons ru .nil), ⟨_, hpair, rfl, _, rfl⟩⟩)
    refine ⟨.ref s.heap.objs.size, _, I2, rfl, ⟨s.heap.objs.size, x, fresh, rfl, rfl, λ xs' q => by rw [I.list_inj q h1]; exact hx⟩, ⟨⟨u, ?_⟩, ?_⟩, λ c hc => ?_⟩
    . have := e'
      rw [show ((i : Int) + 1) = ((i + 1 : Nat) : Int) by omega] at this
      exact this
    . exact hr'.extBut sb.extBut (Ne.symm ne)
    . have lt : c < s.heap.objs.size := by
        simp only [List.mem_cons, List.not_mem_nil, or_false] at hc
        rcases hc with rfl | rfl
        . exact hle
        . obtain ⟨o, q, _⟩ := hr; exact Heap.lt_size q
      rw [upd_ne (Nat.ne_of_lt lt)]
      exact (hf c hc).1
  done := by
    intro X hP hw hK hc i pins s σ H E I hf st hg
    subst hP hw hK
    obtain ⟨xs, h1, hend⟩ := hg
    obtain ⟨its, r, pl, hz⟩ := I.list h1
    have l1' := r.length
    obtain ⟨⟨old, he⟩, hr⟩ := st
    refine wpAny_pyNext_enum_end (show X.A.handled = none from I.ok.hd hc) he hr pl.isList (by simp; omega) λ g x => ⟨rfl, ?_⟩
    exact I.turns (tk := s.toks) (λ c o nc q => by
      simp only [List.mem_cons, List.not_mem_nil, or_false, not_or] at nc
      exact x c o nc.2 q) hf
  self := λ _ _ _ _ _ st h => by
    obtain ⟨⟨old, he⟩, hr⟩ := st
    exact wpAny_pyIter_enum he h
def iEnum (K : PySem.W.Frag) (ta : TA) : TI := λ σ H R => ta σ H λ vs H1 => ∃ a xs, vs = [.ref a] /\ SqL K H1 a xs /\ R (Ite K a) H1
theorem boot_enumerate : bootBuiltins "enumerate" = some (.type "enumerate") := by decide +kernel
section
variable {X : Cx}
theorem pi_enum (K : PySem.W.Frag) {a : Expr} {ta : TA} {elts : List Expr} {kk : Nat} {tpos p pos : Pos} (hg : Gl X "enumerate") (hm : X.mg "enumerate" = none) (ha : PA X [a] ta) (hK : X.K = K := by rfl) (hs : starEach [a] X.env = [(false, eval a X.env)] := by rfl) :
    PI X (.Tuple elts kk tpos) (.Call (.Name "enumerate" p) [a] [] pos) (iEnum K ta) := by
  subst hK
  intro pins s σ H R I h
  refine Call_ (ld_blt I hg hm boot_enumerate (PyProof.Rows.callWith_type1 (thn (ha pos pins s σ H _ I h) λ us s1 ⟨vs, H1, I1, r1, q1⟩ => ?_) hs rfl))
  obtain ⟨l, xs, e, c, q⟩ := q1
  subst e
  obtain ⟨u, rfl, ru⟩ := r1.one
  cases ru
  obtain ⟨its, r, pl, hz⟩ := I1.list c
  refine call_enumerate_list pl.isList λ g he hr hsz kp => wpAny_pyIter_enum he ?_
  refine ⟨_, _, _, _, H1, rfl, I1.kept (t' := s1.toks) kp, turn_enum (Nat.ne_of_gt (Nat.lt_succ_self _)), ⟨⟨_, he⟩, hr⟩, λ c hc => ?_, q⟩
  simp only [List.mem_cons, List.not_mem_nil, or_false] at hc
  have le : s1.heap.objs.size <= c := by
    rcases hc with rfl | rfl
    . exact Nat.le_add_right _ _
    . exact Nat.le_refl _
  exact I1.fpOk le (I1.hok.fresh le)
end
section
variable {K : PySem.W.Frag}
def mEnum (ma : MI) : MI := λ ls hd => (ma ls hd).map λ p => ((p.1.1.zipIdx.map λ q => mkTup [.im (.int (q.2 : Int)), q.1], p.1.2), p.2)
theorem ri_enum {ta : TE} {ma : MI} (ha : RRw K false ta ma) : RIt K (iEnum K (tCons ta tNil)) (mEnum ma) := by
  intro ρ σ H hd ls Q d g hd' hR hL hm hQ
  obtain ⟨⟨⟨d1, g1⟩, h1⟩, e1, e2⟩ := Option.map_eq_some_iff.mp hm
  cases e2
  refine ha ρ σ H hd ls _ d1 g1 h1 hR hL e1 λ ρ1 H1 a x1 R1 G1 S1 => ?_
  obtain ⟨xs, c1, r1⟩ := S1 ρ1 H1 _ .refl R1 G1
  refine ⟨a, xs, rfl, c1, hQ ρ1 H1 _ x1 R1 G1 ?_⟩
  intro ρ3 H3 hd3 x3 R3 G3 i
  obtain ⟨xs, c1, r1⟩ := S1 ρ3 H3 _ x3 R3 G3
  have l1 := r1.len
  refine ⟨λ hi => ?_, λ hi => ⟨xs, c1, ?_⟩⟩
  . have hi : i < d1.length := by simpa using hi
    have i1 : d1[i]? = some (d1[i]'hi) := List.getElem?_eq_getElem _
    obtain ⟨x, x4, x5⟩ := r1.get i1
    refine ⟨⟨xs, x, c1, x4⟩, λ z H4 hz => ?_⟩
    obtain ⟨p, v, fp, rfl, rfl, hv⟩ := hz
    have ev := hv xs c1; rw [x4] at ev; cases ev
    obtain ⟨R4, x6⟩ := R3.hid (ho := .tup [.int (i : Int), x]) fp
    refine ⟨ρ3, mkTup [.im (.int (i : Int)), d1[i]'hi], x6, rfl, R4, ?_, rd_mkTup (SqT.of upd_same) (.cons (by simp [RD, RI]) (.cons (x5.ext R3 x6) .nil))⟩
    simp [i1]
  . have hi : i = d1.length := by simpa using hi
    omega
theorem qi_enum (K : PySem.W.Frag) {X : Cx} {a : Expr} {ta : TE} {ma : MI} {elts : List Expr} {kk : Nat} {tpos p pos : Pos} (hm : X.mg "enumerate" = none) (ha : QR K false X a ta ma) (hg : Gl X "enumerate" := by rfl) (hK : X.K = K := by rfl) (hs : starEach [a] X.env = [(false, eval a X.env)] := by rfl) :
    QI K X (.Tuple elts kk tpos) (.Call (.Name "enumerate" p) [a] [] pos) (iEnum K (tCons ta tNil)) (mEnum ma) := ⟨pi_enum K hg hm (pa_cons ha.p pa_nil hs) hK hs, ri_enum ha.r⟩
theorem wi_enum {ma : MI} {ls : Ls} {hd : Hd} {QI : List D × Gd -> Hd -> Prop} (h : WI ma ls hd λ p x => QI (p.1.zipIdx.map λ q => mkTup [.im (.int (q.2 : Int)), q.1], p.2) x) : WI (mEnum ma) ls hd QI := by
  obtain ⟨p, x, e, q⟩ := h
  exact ⟨_, _, by simp only [mEnum, e, Option.map_some], q⟩
end
section
variable {K : PySem.W.Frag} {ρ ρ' : List Addr} {H H' : Hp} {hd hd' : Hd}
end
end L2
namespace HT
open PySem PySem.Spec PyProof.Rows
section
variable {prog : Program} {w : World} {A : Around} {E : Value -> Shared -> Prop} {s : Shared}
end
end HT
namespace L2
open PySem PySem.Spec PyProof.Rows
section
variable {X : Cx}
end
section
variable {K : PySem.W.Frag} {ρ ρ' : List Addr} {H H' : Hp} {hd hd' : Hd}
end
section
variable {X : Cx}
end
section
variable {X : Cx}
end
end L2
namespace L2
open PySem PySem.Spec PyProof.Rows
section
variable {prog : Program} {w : World} {A : Around} {E : Value -> Shared -> Prop} {s : Shared}
theorem collect_tup {l : Addr} {vs : List Value} {Q : List Value -> Shared -> Prop} (hl : IsTup s.heap l vs.toArray)
    (h : Q vs { s with heap := (s.heap.push (seqObj "list" #[] 0)).update s.heap.objs.size (Obj.mapSeq (· ++ vs.toArray)) }) (hsz : vs.length <= sizeLine := by size_fits) :
    wpAny (model prog w) A (collect (.ref l)) Q E s := by
  obtain ⟨o, ho, hc, n, hd⟩ := id hl
  unfold collect
  refine wpAny_bind (wpAny_runValue (codeAny_builtin entry_proto_collect' ?_))
  show wpAny _ _ (do again (.builtin "list.__iadd__" ⟨[<- newList [], .ref l], []⟩)) _ _ s
  refine wpAny_bind (wpAny_newList (wpAny_pure ⟨Code.quiet_builtin _ (by decide +kernel), codeAny_builtin entry_list_iadd' ?_⟩))
  show wpAny _ _ (Builtin.List.listExtendWith (.ref s.heap.objs.size) (.ref l) (.ref s.heap.objs.size)) _ _ { s with heap := s.heap.push (seqObj "list" #[] 0) }
  unfold Builtin.List.listExtendWith
  have ho' : (s.heap.push (seqObj "list" #[] 0)).get? l = some o := Heap.get?_push_of_some _ ho
  refine wpAny_bind (wpAny_typeOf (T := "tuple") ⟨o, ho', hc⟩ ?_)
  have ht : (Value.type "tuple" == Value.type "tuple") = true := by rfl
  rw [if_pos (by rw [ht]; simp)]
  refine wpAny_bind (listItems_at ho' hd ?_)
  refine wpAny_bind (listItems_at (xs := #[]) (n := 0) (Heap.get?_push_size _ rfl) rfl ?_)
  rw [if_neg (by simp)]
  refine wpAny_bind (listUpdate_at (xs := #[]) (n := 0) (Heap.get?_push_size _ rfl) rfl ?_ (Nat.zero_le _) (by show (#[] ++ vs.toArray).size <= sizeLine + 1; simp only [Array.size_append, List.size_toArray, List.length_nil]; omega))
  refine wpAny_pure ?_
  show wpAny (model prog w) A (do
      let o <- load s.heap.objs.size
      match o.data with
      | .seq xs _ => pure xs.toList
      | _ => unsupported "internal:collect") Q E { s with heap := (s.heap.push (seqObj "list" #[] 0)).update s.heap.objs.size (Obj.mapSeq (· ++ vs.toArray)) }
  refine wpAny_bind (wpAny_load (get?_update_seq (Heap.get?_push_size _ rfl) _) ?_)
  show wpAny _ _ (pure ((#[] : Array Value) ++ vs.toArray).toList) Q E _
  rw [show ((#[] : Array Value) ++ vs.toArray).toList = vs by simp]
  exact wpAny_pure h
end
end L2
namespace L2
open PySem PySem.Spec PyProof.Rows
section
variable (K : PySem.W.Frag) {X : Cx}
end
section
variable {K : PySem.W.Frag}
end
end L2
namespace L2
end L2
namespace L2
open PySem PySem.Spec PyProof.Rows
section
variable {K : PySem.W.Frag} {ρ ρ' : List Addr} {H H' : Hp} {hd hd' : Hd}
end
section
variable {hd : Hd} {QE : D -> Hd -> Prop}
end
end L2
namespace L2
open PySem PySem.Spec PyProof.Rows PySem.W
inductive KeysOk (h : Heap) : List Value -> List Int -> Prop
  | kI {ks : List Value} {kz : List Int} : IntsAre ks kz -> KeysOk h ks kz
  | kP {ks : List Value} {ps : List (Int × Int)} : ks.length = ps.length -> (∀ (i : Nat) (v : Value) (p : Int × Int), ks[i]? = some v -> ps[i]? = some p -> PairAt h v p) -> (∀ p ∈ ps, pok p) -> KeysOk h ks (ps.map pkey)
theorem KeysOk.len {h : Heap} {ks : List Value} {kz : List Int} (K : KeysOk h ks kz) : kz.length = ks.length := by
  cases K with
  | kI i => have := i.length; omega
  | kP hl _ _ => simp [hl]
theorem ints_get : ∀ {ks : List Value} {kz : List Int} {i : Nat}, IntsAre ks kz -> i < ks.length -> ∃ t, ks.getD i .none = .int (kz.getD i 0) t
  | _, _, 0, .cons .., _ => ⟨_, rfl⟩
  | _, _, i + 1, .cons _ _ h, hi => by
    obtain ⟨t, e⟩ := ints_get (i := i) h (by simpa using hi)
    exact ⟨t, by simpa using e⟩
section
variable {prog : Program} {w : World} {A : Around} {E : Value -> Shared -> Prop} {s : Shared}
theorem key_kind {ks : List Value} {kz : List Int} (K : KeysOk s.heap ks kz) (h2 : 2 <= ks.length) {Q : SortKind -> Shared -> Prop}
    (h : ∀ κ, (∀ (i j : Nat) (C : Bool -> Shared -> Prop), i < ks.length -> j < ks.length -> C (decide (kz.getD i 0 < kz.getD j 0)) s -> wpAny (model prog w) A (keyLt' κ (ks.getD i .none) (ks.getD j .none)) C (λ _ _ => False) s) -> Q κ s) :
    wpAny (model prog w) A (keyKind' ks.toArray) Q E s := by
  cases K with
  | kI hk =>
    rw [ksk_kind (kz := kz) (by simpa using hk) (by simpa using h2)]
    refine wpAny_pure (h _ λ i j C hi hj hC => ?_)
    obtain ⟨t, e1⟩ := ints_get hk hi
    obtain ⟨u, e2⟩ := ints_get hk hj
    rw [e1, e2]
    exact kat_lt_int hC
  | @kP ps hl hp hok =>
    obtain ⟨fs, t1, t2, t3⟩ := tups_of hl hp
    have tT : ∀ f ∈ fs, Looks (model prog w) s.heap (typeOf f) (Value.type "int") := λ f hf => by
      obtain ⟨i, t, rfl⟩ := t3 f hf
      exact .of_pure rfl
    refine kat_kind t1 (by omega) tT rfl (h _ λ i j C hi hj hC => ?_)
    have pi : ps[i]? = some (ps.getD i (0, 0)) := by simp [show i < ps.length by omega]
    have pj : ps[j]? = some (ps.getD j (0, 0)) := by simp [show j < ps.length by omega]
    have vi : ks[i]? = some (ks.getD i Value.none) := by simp [hi]
    have vj : ks[j]? = some (ks.getD j Value.none) := by simp [hj]
    have ei : (ps.map pkey).getD i 0 = pkey (ps.getD i (0, 0)) := by simp [show i < ps.length by omega]
    have ej : (ps.map pkey).getD j 0 = pkey (ps.getD j (0, 0)) := by simp [show j < ps.length by omega]
    rw [ei, ej] at hC
    exact lt_pair (hp i _ _ vi pi) (hp j _ _ vj pj) (hok _ (List.mem_of_getElem? pi)) (hok _ (List.mem_of_getElem? pj)) hC
theorem key_out {vs : List Value} {kz : List Int} (hl : kz.length = vs.length) {p : Array Nat} (pa : PAr vs.length p) (hs : STo (λ i => kz.getD i 0) p vs.length) : KskOut false kz vs (p.toList.map λ i => vs.getD i Value.none) := by
  have sz := pa.size
  refine ⟨p.toList.map λ i => (kz.getD i 0, vs.getD i Value.none), ?_, by rw [List.map_map]; rfl, ?_⟩
  . have e : kz.zip vs = (List.range vs.length).map λ i => (kz.getD i 0, vs.getD i Value.none) := by
      refine List.ext_getElem? λ i => ?_
      by_cases hi : i < vs.length
      . have hi2 : i < kz.length := by omega
        rw [(List.getElem?_zip_eq_some (z := (kz[i], vs[i]))).mpr ⟨by simp [hi2], by simp [hi]⟩]
        simp [hi, hi2]
      . rw [List.getElem?_eq_none (by simp; omega), List.getElem?_eq_none (by simp; omega)]
    rw [e]
    have := Array.perm_iff_toList_perm.mp pa
    simpa using this.map _
  . rw [List.pairwise_map, List.pairwise_iff_getElem]
    intro i j hi hj hij
    simp only [Array.length_toList] at hi hj
    have := hs i j (by omega) (by omega)
    unfold kv at this
    simpa [Array.getD, hi, hj] using this
theorem key_end {a kS : Addr} {e e1 : Nat} {ks vs : List Value} {kz : List Int} {P : PySem.Fin -> Shared -> Prop} (nk : s.heap.get? kS = some (seqObj "list" ks.toArray e)) (na : s.heap.get? a = some (seqObj "list" #[] e1)) (hka : kS ≠ a) (K : KeysOk s.heap ks kz) (hl : ks.length = vs.length) (h64 : vs.length < 64)
    (h : ∀ out : List Value, KskOut false kz vs out -> P (.done (.ret .none)) { s with heap := (s.heap.update kS (Obj.mapSeq λ _ => #[])).update a (Obj.mapSeq λ _ => out.toArray) }) :
    wpAny (model prog w) A (ksk_end a false vs.toArray e1 (.ref kS) ks.toArray) P E s := by
  have hz : kz.length = vs.length := by have := K.len; omega
  have s1 := Heap.SameBut.update s.heap kS (Obj.mapSeq λ _ => (#[] : Array Value))
  have na1 : (s.heap.update kS (Obj.mapSeq λ _ => (#[] : Array Value))).get? a = some (seqObj "list" #[] e1) := (s1.2 a hka.symm).trans na
  have tail : ∀ (st : SortSt) (out : List Value), (arrOf st).map (·.2) = out.toArray -> out.length = vs.length -> failedOf st = none -> KskOut false kz vs out -> wpAny (model prog w) A (ksk_tail a false e1 (.ref kS) st) P E s := by
    intro st out ho hlo hf so
    unfold ksk_tail
    dsimp only
    refine wpAny_bind (listUpdate_at nk rfl ?_ (by simp [sizeLine_eq]; omega) (Nat.zero_le _))
    refine wpAny_bind (wpAny_letGo ?_)
    refine wpAny_bind (seqEpoch_at na1 rfl ?_)
    simp only [Bool.false_eq_true, if_false]
    rw [ho]
    refine wpAny_bind (listUpdate_at na1 rfl ?_ (Nat.zero_le _) (by rw [List.size_toArray, sizeLine_eq]; omega))
    rw [hf]
    simp only [bne_self_eq_false, Bool.false_eq_true, if_false]
    exact wpAny_pure (h out so)
  unfold ksk_end
  simp only [Bool.false_eq_true, if_false]
  by_cases h2 : vs.toArray.size < 2
  . rw [if_pos h2, if_pos h2]
    refine wpAny_bind (wpAny_pure ?_)
    rw [StateT.run_pure]
    refine wpAny_bind (wpAny_pure ?_)
    dsimp only
    refine tail _ vs ?_ rfl rfl ⟨kz.zip vs, .refl _, ?_, ?_⟩
    . show (ks.toArray.zip vs.toArray).map (·.2) = vs.toArray
      apply Array.toList_inj.mp
      simp only [Array.toList_map, Array.toList_zip]
      exact List.map_snd_zip (by omega)
    . exact (List.map_snd_zip (by omega)).symm
    . have hzl : (kz.zip vs).length < 2 := by simp at h2 ⊢; omega
      cases hh : kz.zip vs with
      | nil => exact .nil
      | cons z r =>
        cases r with
        | nil => exact List.pairwise_singleton _ _
        | cons y t => rw [hh] at hzl; exact absurd hzl (by simp)
  . rw [if_neg h2, if_neg h2]
    have h2' : 2 <= vs.length := by simp at h2; omega
    refine wpAny_bind (key_kind K (by omega) λ κ cmp => ?_)
    have hsz : (ks.toArray.zip vs.toArray).size = vs.length := by simp [hl]
    have it : ∀ i, i < vs.length -> kas_item (ks.toArray.zip vs.toArray) i = (ks.getD i .none, vs.getD i .none) := λ i hi => by
      unfold kas_item
      have h1 : i < ks.length := by omega
      have h3 : i < (ks.toArray.zip vs.toArray).size := by omega
      have e : (ks.toArray.zip vs.toArray).getD i (Value.none, Value.none) = (ks.toArray.zip vs.toArray)[i] := by simp only [Array.getD, h3, dite_true]; rfl
      have e2 : (ks.toArray.zip vs.toArray)[i] = (ks[i], vs[i]) := by rw [Array.getElem_zip]; simp
      rw [e, e2]
      simp [h1, hi]
    have est : SortSt.mk' κ (ks.toArray.zip vs.toArray) #[] 7 none = kas_st κ (ks.toArray.zip vs.toArray) (List.toArray (List.range vs.length)) := by
      unfold kas_st
      rw [<- hsz, kas_range]
    have ask : (kas_sort vs.length).kasWp (kas_cmp prog w A κ (ks.toArray.zip vs.toArray)) (λ p s' => s' = s /\ PAr vs.length p /\ STo (λ i => kz.getD i 0) p vs.length) s := by
      refine PWp.wp (n := vs.length) (r := λ i => kz.getD i 0) (P := λ s' => s' = s) (λ i j C s' hi hj e hC => ?_) ((sort_ok (by omega)).mono λ p z s' e => ⟨e, z.1, z.2⟩) rfl
      subst e
      unfold kas_cmp
      rw [it i hi, it j hj]
      exact cmp i j C (by omega) (by omega) (hC _ rfl)
    have run := kas_runs (E := E) (Q := λ _ st' s' => ∃ p : Array Nat, arrOf st' = p.map (kas_item (ks.toArray.zip vs.toArray)) /\ failedOf st' = none /\ s' = s /\ PAr vs.length p /\ STo (λ i => kz.getD i 0) p vs.length) h2' h64 (λ p st' s' x1 x2 x3 x4 => ⟨p, x2, x3, x4⟩) ask
    rw [<- est] at run
    refine wpAny_bind (wpAny_mono run ?_ λ _ _ e => e)
    rintro ⟨⟨⟩, st'⟩ s' ⟨p, har, hf, rfl, pa, so⟩
    dsimp only
    refine tail st' (p.toList.map λ i => vs.getD i Value.none) ?_ ?_ hf (key_out hz pa so)
    . rw [har]
      apply Array.toList_inj.mp
      simp only [Array.toList_map, List.map_map, List.toList_toArray]
      refine List.map_congr_left λ i hi => ?_
      have hi' : i < vs.length := by
        have := (Array.perm_iff_toList_perm.mp pa).mem_iff.mp hi
        simpa using this
      exact congrArg Prod.snd (it i hi')
    . simp [pa.size]
end
end L2
namespace L2
open PySem PySem.Spec PyProof.Rows PySem.W
def keyGo (G : Hp -> Prop) (tb : TE) (cap : St) : List Int -> Hp -> (List V -> Hp -> Prop) -> Prop
  | [], H, Q => Q [] H
  | n :: r, H, Q => G H /\ tb (some (.int n) :: cap) H λ k H1 => keyGo G tb cap r H1 λ ks H2 => Q (k :: ks) H2
def KeysV (K : PySem.W.Frag) (H : Hp) (ks : List V) (kz : List Int) : Prop := ks = kz.map V.int ∨ ∃ ps : List (Int × Int), kz = ps.map pkey /\ (∀ p ∈ ps, pok p) /\ ks.length = ps.length /\ ∀ (i : Nat) (k : V) (p : Int × Int), ks[i]? = some k -> ps[i]? = some p -> ∃ x, k = .ref x /\ SqT K H x [.int p.1, .int p.2]
def OutN (kz ns ms : List Int) : Prop := ∃ zs : List (Int × Int), zs.Perm (kz.zip ns) /\ zs.Pairwise (λ a b => a.1 <= b.1) /\ ms = zs.map (·.2)
def intOf : Value -> Int
  | .int n _ => n
  | _ => 0
theorem ints_map : ∀ {vs : List Value} {ns : List Int}, IntsAre vs ns -> vs.map intOf = ns
  | _, _, .nil => rfl
  | _, _, .cons _ _ h => by rw [List.map_cons, ints_map h]; rfl
theorem ints_all : ∀ {vs : List Value} {ns : List Int}, IntsAre vs ns -> ∀ v ∈ vs, ∃ t, v = .int (intOf v) t
  | _, _, .nil, v, h => by cases h
  | _, _, .cons _ _ h, v, hv => by
    rcases List.mem_cons.mp hv with rfl | hv
    . exact ⟨_, rfl⟩
    . exact ints_all h v hv
theorem ints_vals : ∀ {xs : List V} {vs : List Value} {ns : List Int}, xs = ns.map V.int -> Vals xs vs -> IntsAre vs ns
  | _, _, [], e, h => by subst e; cases h; exact .nil
  | _, _, n :: r, e, h => by
    subst e
    cases h with
    | cons a b => obtain ⟨t, rfl⟩ := a; exact .cons n t (ints_vals rfl b)
theorem vals_intsK : ∀ {vs : List Value}, (∀ v ∈ vs, ∃ t, v = Value.int (intOf v) t) -> Vals ((vs.map intOf).map V.int) vs
  | [], _ => .nil
  | v :: r, h => by
    refine .cons ?_ (vals_intsK λ w hw => h w (List.mem_cons_of_mem _ hw))
    obtain ⟨t, e⟩ := h v List.mem_cons_self
    exact ⟨t, e⟩
theorem out_n {kz ns : List Int} {vs out : List Value} (hi : IntsAre vs ns) (so : KskOut false kz vs out) : OutN kz ns (out.map intOf) /\ ∀ v ∈ out, ∃ t, v = Value.int (intOf v) t := by
  obtain ⟨zs, pm, rfl, pw⟩ := so
  refine ⟨⟨zs.map λ z => (z.1, intOf z.2), ?_, ?_, by rw [List.map_map, List.map_map]; rfl⟩, ?_⟩
  . have := pm.map λ z : Int × Value => (z.1, intOf z.2)
    have e : ((kz.zip vs).map λ z : Int × Value => (z.1, intOf z.2)) = kz.zip ns := by
      rw [<- ints_map hi, List.zip_map_right]
      rfl
    rwa [e] at this
  . rw [List.pairwise_map]
    exact pw.imp λ h => by simpa using h
  . intro v hv
    obtain ⟨z, hz, rfl⟩ := List.mem_map.mp hv
    have := pm.mem_iff.mp hz
    exact ints_all hi _ (List.of_mem_zip this).2
section
variable {X : Cx} {pins : List (Addr × Obj)} {σ : St} {H : Hp} {s : Shared} {a : Addr}
theorem Inv.adopt {o : HO} (I : Inv X pins σ H s) (f : FpOk X pins H a) (h0 : X.s₀.heap.objs.size <= a) (new : ObjOk X.prog X.w (upd H a o) s.heap a o) : Inv X pins σ (upd H a o) s := by
  obtain ⟨hn, hL, hfs, _, hc, hp⟩ := f
  have nb : ∀ b u, H b = some u -> b ≠ a := λ b u e => ne_of_none e hn
  have n0 : ∀ b o, X.s₀.heap.get? b = some o -> b ≠ a := λ b o e => Nat.ne_of_lt (Nat.lt_of_lt_of_le (Heap.lt_size e) h0)
  refine ⟨I.ok, I.os, I.bare, ⟨I.base.keep, I.base.slot, λ b o e n hx => ?_, I.base.there, λ b xs e => ?_, λ b o u e => ?_, λ b ps e => ?_⟩, I.loc, I.cell, ?_, λ x c e => ?_, λ p hp' => ?_, λ b u e => ?_, I.len⟩
  . rw [upd_ne (n0 b o e)]; exact I.base.free b o e n hx
  . have := I.base.tups b xs e
    rw [upd_ne (nb b _ this)]; exact this
  . have := I.base.frzs b o u e
    rw [upd_ne (nb b _ this)]; exact this
  . obtain ⟨m, e1⟩ := I.base.tbls b ps e
    exact ⟨m, by rw [upd_ne (nb b _ e1)]; exact e1⟩
  . rw [upd_ne (λ z => hL z.symm)]; exact I.free
  . rw [upd_ne (hc x c e)]; exact I.freeC x c e
  . obtain ⟨q1, q2, q3⟩ := I.pin p hp'
    exact ⟨q1, by rw [upd_ne (hp p hp')]; exact q2, q3⟩
  . by_cases z : b = a
    . subst z
      rw [upd_same] at e; cases e
      exact new
    . rw [upd_ne z] at e
      exact (I.hok b u e).stay (λ _ _ _ q => q) (λ d q => by rw [upd_ne (nb d _ q)]; exact q) λ d xs q => by rw [upd_ne (nb d _ q)]; exact q
theorem keys_ok (I : Inv X pins σ H s) {ks : List V} {kz : List Int} {us : List Value} (k : KeysV X.K H ks kz) (r : Vals ks us) : KeysOk s.heap us kz := by
  rcases k with rfl | ⟨ps, rfl, hok, hl, hp⟩
  . exact .kI (ints_vals rfl r)
  . refine .kP (by rw [<- r.length]; exact hl) (λ i v p e1 e2 => ?_) hok
    have hi : i < ks.length := by rw [hl]; exact (List.getElem?_eq_some_iff.mp e2).1
    have ek : ks[i]? = some ks[i] := by simp [hi]
    obtain ⟨x, ex, sq⟩ := hp i _ p ek e2
    obtain ⟨v', ev, rel⟩ := vals_get r ek
    rw [e1] at ev
    cases ev
    rw [ex] at rel
    have rel : v = Value.ref x := rel
    subst rel
    obtain ⟨jts, rj, ⟨o, ho, hc, n, hd⟩, _⟩ := I.tuple sq
    cases rj with
    | cons r1 t1 =>
      cases t1 with
      | cons r2 t2 =>
        cases t2
        obtain ⟨t, rfl⟩ := r1
        obtain ⟨t', rfl⟩ := r2
        exact ⟨x, o, t, t', n, rfl, ho, hc, hd⟩
end
end L2
namespace L2
open PySem PySem.Spec PyProof.Rows PySem.W
section
variable {X : Cx} {pins : List (Addr × Obj)} {σ : St} {H : Hp} {s : Shared}
theorem Inv.turn1 {b : Addr} {o : Obj} {h' : Heap} {t' : Nat} (I : Inv X ((b, o) :: pins) σ H s) (f : FpOk X pins H b) (hs : Heap.SameBut b s.heap h') : Inv X pins σ H { s with heap := h', toks := t' } := by
  have J : Inv X pins σ H s := I.pins_of λ p hp => I.pin p (List.mem_append_right _ (List.mem_cons_of_mem _ hp))
  obtain ⟨hn, hL, _, h1, h2, h3⟩ := f
  exact J.turned (λ c u n e => (hs.2 c n).trans e) hn hL h1 h2 h3
theorem FpOk.more {b c : Addr} {o : Obj} (f : FpOk X pins H b) (h : c ≠ b) : FpOk X ((c, o) :: pins) H b := by
  obtain ⟨a1, a2, a3, a4, a5, a6⟩ := f
  refine ⟨a1, a2, a3, a4, a5, λ p hp => ?_⟩
  rcases List.mem_append.mp hp with q | q
  . exact a6 p (List.mem_append_left _ q)
  . rcases List.mem_cons.mp q with rfl | q
    . exact h
    . exact a6 p (List.mem_append_right _ q)
theorem Inv.repin {b : Addr} {o : Obj} (I : Inv X pins σ H s) (f : FpOk X pins H b) (e : s.heap.get? b = some o) (hd : ∀ v, o.data ≠ .cell v) : Inv X ((b, o) :: pins) σ H s :=
  I.pins_of λ p hp => by
    rcases List.mem_cons.mp hp with rfl | hp
    . exact ⟨e, f.1, f.2.1, f.2.2.1, hd⟩
    . exact I.pin p (List.mem_append_right _ hp)
theorem FpOk.heap {b : Addr} {H' : Hp} (f : FpOk X pins H b) (h : H' b = none) : FpOk X pins H' b := ⟨h, f.2⟩
theorem sorted_key {l : Value} {f : Addr} {ns : List Int} {G : Hp -> Prop} {tb : TE} {cap : St} {Q : VK} {E : Value -> Shared -> Prop} (I : Inv X pins σ H s) (h64 : ns.length < 64)
    (hcol : ∀ (Q : List Value -> Shared -> Prop) (E : Value -> Shared -> Prop), (∀ (g : Heap) (tk : Nat) (vs : List Value), (∀ b o, s.heap.get? b = some o -> g.get? b = some o) -> IntsAre vs ns -> Q vs { s with heap := g, toks := tk }) -> wpAny (model X.prog X.w) X.A.in1 (collect l) Q E s)
    (turn : ∀ (pins' : List (Addr × Obj)) (H1 : Hp) (s1 : Shared) (n : Int) (u : Value) (Q1 : VK), (∀ p ∈ pins, p ∈ pins') -> Inv X pins' σ H1 s1 -> RelV (.int n) u -> G H1 -> tb (some (.int n) :: cap) H1 Q1 -> wpAny (model X.prog X.w) X.A.in1.in1 (call (.ref f) [u]) (EP X pins' σ Q1) (λ _ _ => False) s1)
    (h : keyGo G tb cap ns H λ ks H3 => ∃ kz, KeysV X.K H3 ks kz /\ ∀ p ms, H3 p = none -> OutN kz ns ms -> Q (.ref p) (upd H3 p (.lst (ms.map V.int)))) :
    wpAny (model X.prog X.w) X.A (call (.builtin "sorted") [l] [(Str.ofString "key", .ref f)]) (EP X pins σ Q) E s := by
  refine call_function_entry_kw kind_sorted plain_sorted entry_sorted (ksk_s1 _ _) ?_
  unfold Builtin.«sorted»
  refine wpAny_bind (m := checkCount "sorted" 1 1 _) (wpAny_pure ?_)
  refine wpAny_bind (hcol _ _ λ g tk vs keep0 hi => ?_)
  replace I : Inv X pins σ H { s with heap := g, toks := tk } := I.kept (t' := tk) keep0
  clear hcol
  generalize { s with heap := g, toks := tk } = s at I ⊢
  clear keep0 g tk
  have line : vs.length <= sizeLine := by have := hi.length; rw [sizeLine_eq]; omega
  have h64 : vs.length < 64 := by have := hi.length; omega
  refine wpAny_bind (wpAny_newList ?_ line)
  show wpAny _ _ _ _ _ { s with heap := s.heap.push (seqObj "list" vs.toArray 0) }
  have hoL : (s.heap.push (seqObj "list" vs.toArray 0)).get? s.heap.objs.size = some (seqObj "list" vs.toArray 0) := Heap.get?_push_size _ rfl
  have keep1 : ∀ b o, s.heap.get? b = some o -> (s.heap.push (seqObj "list" vs.toArray 0)).get? b = some o := λ b o q => Heap.get?_push_of_some _ q
  have sz1 : (s.heap.push (seqObj "list" vs.toArray 0)).objs.size = s.heap.objs.size + 1 := by rw [size_push']
  generalize s.heap.push (seqObj "list" vs.toArray 0) = h1 at hoL keep1 sz1 ⊢
  have fa : ∀ H', H' s.heap.objs.size = none -> FpOk X pins H' s.heap.objs.size := λ H' hn => I.fpOk (Nat.le_refl _) hn
  have fk : ∀ H', H' (s.heap.objs.size + 2) = none -> FpOk X pins H' (s.heap.objs.size + 2) := λ H' hn => I.fpOk (by omega) hn
  refine wpAny_bind (wpAny_holding (wpAny_call_entry_kw slot_list_sort ⟨_, hoL, rfl⟩ entry_list_sort ?_ (ksk_l1 _ _)))
  show wpAny (model X.prog X.w) X.A.in1.in1 (Builtin.«list.sort» ⟨[.ref (s.heap.objs.size)], [(Str.ofString "key", .ref f)]⟩) _ _ _
  rw [ksk_t1]
  have u1 := Heap.SameBut.update h1 (s.heap.objs.size) (Obj.mapSeq λ _ => (#[] : Array Value))
  obtain ⟨e1, ho1⟩ : ∃ e1, (h1.update (s.heap.objs.size) (Obj.mapSeq λ _ => (#[] : Array Value))).get? (s.heap.objs.size) = some (seqObj "list" #[] e1) := ⟨_, get?_update_seq hoL λ _ => #[]⟩
  have sz2 : (h1.update (s.heap.objs.size) (Obj.mapSeq λ _ => (#[] : Array Value))).objs.size = s.heap.objs.size + 1 := by rw [Heap.size_update, sz1]
  have keep2 : ∀ b o, s.heap.get? b = some o -> (h1.update (s.heap.objs.size) (Obj.mapSeq λ _ => (#[] : Array Value))).get? b = some o := λ b o q => (u1.2 b (Nat.ne_of_lt (Heap.lt_size q))).trans (keep1 b o q)
  unfold ksk_tree
  refine wpAny_bind (listItems_at hoL rfl ?_)
  refine wpAny_bind (listUpdate_at hoL rfl ?_ (by rw [List.size_toArray, sizeLine_eq]; omega) (Nat.zero_le _))
  refine wpAny_bind (seqEpoch_at ho1 rfl ?_)
  generalize h1.update (s.heap.objs.size) (Obj.mapSeq λ _ => (#[] : Array Value)) = h2 at ho1 sz2 keep2 ⊢
  refine wpAny_bind (wpAny_newTuple ?_ (by show vs.length <= _; exact line))
  refine wpAny_bind (wpAny_newList ?_ (Nat.zero_le _))
  have sz3 : (h2.push (seqObj "tuple" vs.toArray 0)).objs.size = s.heap.objs.size + 2 := by rw [size_push', sz2]
  have okS : ((h2.push (seqObj "tuple" vs.toArray 0)).push (seqObj "list" #[] 0)).get? (s.heap.objs.size + 2) = some (seqObj "list" #[] 0) := by rw [<- sz3]; exact Heap.get?_push_size _ rfl
  have oa4 : ((h2.push (seqObj "tuple" vs.toArray 0)).push (seqObj "list" #[] 0)).get? (s.heap.objs.size) = some (seqObj "list" #[] e1) := Heap.get?_push_of_some _ (Heap.get?_push_of_some _ ho1)
  have keep4 : ∀ b o, s.heap.get? b = some o -> ((h2.push (seqObj "tuple" vs.toArray 0)).push (seqObj "list" #[] 0)).get? b = some o := λ b o q => Heap.get?_push_of_some _ (Heap.get?_push_of_some _ (keep2 b o q))
  have ekS : ∀ o : Obj, Value.ref ((({ s with heap := h2.push o } : Shared)).heap.objs.size) = Value.ref (h2.push o).objs.size := λ _ => rfl
  refine wpAny_holding ?_
  have goal : ∀ kS : Addr, kS = s.heap.objs.size + 2 -> wpAny (model X.prog X.w) X.A.in1.in1 (ksk_rest (s.heap.objs.size) (.ref f) false vs.toArray e1 (.ref kS)) (λ fin s' => ∃ v, fin = PySem.Fin.done (.ret v) /\ wpAny (model X.prog X.w) X.A.in1 (ret (.ref (s.heap.objs.size))) (λ fin s' => ∃ v, fin = PySem.Fin.done (.ret v) /\ EP X pins σ Q v s') E s') E { s with heap := (h2.push (seqObj "tuple" vs.toArray 0)).push (seqObj "list" #[] 0) } := by
    intro kS ek
    rw [ek]
    have fresh0 : H (s.heap.objs.size) = none /\ H (s.heap.objs.size + 2) = none := ⟨I.hok.fresh (by omega), I.hok.fresh (by omega)⟩
    have I4 : Inv X pins σ H { s with heap := (h2.push (seqObj "tuple" vs.toArray 0)).push (seqObj "list" #[] 0) } := I.kept (t' := s.toks) keep4
    have nak : s.heap.objs.size ≠ s.heap.objs.size + 2 := by omega
    have I5 := (I4.repin (fk H fresh0.2) okS (λ v z => by cases z)).repin ((fa H fresh0.1).more nak.symm) oa4 (λ v z => by cases z)
    unfold ksk_rest
    refine wpAny_bind (wpAny_rule ?_)
    first
      | rw [List.forIn_toArray]
      | (rw [<- Array.forIn_toList]; simp only [List.toList_toArray])
      | rw [<- Array.forIn_toList]
    refine wpAny_bind (ksk_fold (λ i s' => ∃ (H' : Hp) (kA : Array Value) (e : Nat) (ks : List V), Inv X ((s.heap.objs.size, seqObj "list" #[] e1) :: (s.heap.objs.size + 2, seqObj "list" kA e) :: pins) σ H' s' /\ Vals ks kA.toList /\ kA.size = i /\
      keyGo G tb cap (ns.drop i) H' λ ks' H3 => ∃ kz, KeysV X.K H3 (ks ++ ks') kz /\ ∀ p ms, H3 p = none -> OutN kz ns ms -> Q (.ref p) (upd H3 p (.lst (ms.map V.int)))) vs 0 _ ⟨H, #[], 0, [], I5, .nil, rfl, h⟩ ?step ?done)
    case step =>
      rintro j x s' hx ⟨H', kA, e, ks, J, rk, hsz, hgo⟩
      simp only [Nat.zero_add] at hsz hgo ⊢
      have hj : j < vs.length := (List.getElem?_eq_some_iff.mp hx).1
      have hjn : j < ns.length := by have := hi.length; omega
      have enx : ns[j]? = some ns[j] := by simp [hjn]
      have edr : ns.drop j = ns[j] :: ns.drop (j + 1) := List.drop_eq_getElem_cons hjn
      rw [edr] at hgo
      obtain ⟨hG, hgo⟩ := hgo
      have rx : RelV (.int ns[j]) x := by
        obtain ⟨t, et⟩ := ints_get hi hj
        have : vs.getD j .none = x := by simp [List.getD, hx]
        rw [this] at et
        have : ns.getD j 0 = ns[j] := by simp [hjn]
        rw [this] at et
        exact ⟨t, et⟩
      refine wpAny_bind (wpAny_attempt (wpAny_mono (turn _ H' s' ns[j] x _ (λ p hp => List.mem_cons_of_mem _ (List.mem_cons_of_mem _ hp)) J rx hG hgo) (λ v s'' he => ?_) λ _ _ hF => hF.elim))
      obtain ⟨k, H2, J2, r2, hgo2⟩ := he
      dsimp only
      have pk := J2.pin (s.heap.objs.size + 2, seqObj "list" kA e) (List.mem_append_right _ (List.mem_cons_of_mem _ List.mem_cons_self))
      have pa := J2.pin (s.heap.objs.size, seqObj "list" #[] e1) (List.mem_append_right _ List.mem_cons_self)
      have u2 := Heap.SameBut.update s''.heap (s.heap.objs.size + 2) (Obj.mapSeq (·.push v))
      obtain ⟨c2, hc2⟩ : ∃ c2, (s''.heap.update (s.heap.objs.size + 2) (Obj.mapSeq (·.push v))).get? (s.heap.objs.size + 2) = some (seqObj "list" (kA.push v) c2) := ⟨_, get?_update_seq pk.1 (·.push v)⟩
      refine wpAny_bind (listUpdate_at pk.1 rfl ?_ (by rw [sizeLine_eq]; omega) (Nat.le_trans (Nat.le_of_eq (Array.size_push ..)) (by rw [sizeLine_eq]; omega)))
      have J3 : Inv X ((s.heap.objs.size + 2, seqObj "list" kA e) :: pins) σ H2 s'' := J2.pins_of λ p hp => J2.pin p (List.mem_append_right _ (List.mem_cons_of_mem _ hp))
      have J4 : Inv X pins σ H2 { s'' with heap := s''.heap.update (s.heap.objs.size + 2) (Obj.mapSeq (·.push v)) } := J3.turn1 (t' := s''.toks) (fk H2 pk.2.1) u2
      have oa : (s''.heap.update (s.heap.objs.size + 2) (Obj.mapSeq (·.push v))).get? (s.heap.objs.size) = some (seqObj "list" #[] e1) := (u2.2 _ nak).trans pa.1
      have J5 := (J4.repin (fk H2 pk.2.1) hc2 (λ v z => by cases z)).repin ((fa H2 pa.2.1).more nak.symm) oa (λ v z => by cases z)
      refine wpAny_pure ⟨rfl, H2, kA.push v, c2, ks ++ [k], J5, ?_, by simp [hsz], ?_⟩
      . rw [Array.toList_push]; exact rk.append (.cons r2 .nil)
      . simpa [List.append_assoc] using hgo2
    case done =>
      rintro s' ⟨H', kA, e, ks, J, rk, hsz, hgo⟩
      have hdr : ns.drop (0 + vs.length) = [] := List.drop_of_length_le (by have := hi.length; omega)
      rw [hdr] at hgo
      obtain ⟨kz, kv, fin⟩ : ∃ kz, KeysV X.K H' (ks ++ []) kz /\ ∀ p ms, H' p = none -> OutN kz ns ms -> Q (.ref p) (upd H' p (.lst (ms.map V.int))) := hgo
      rw [List.append_nil] at kv
      have pk := J.pin (s.heap.objs.size + 2, seqObj "list" kA e) (List.mem_append_right _ (List.mem_cons_of_mem _ List.mem_cons_self))
      have pa := J.pin (s.heap.objs.size, seqObj "list" #[] e1) (List.mem_append_right _ List.mem_cons_self)
      refine wpAny_bind (listItems_at pk.1 rfl ?_)
      have ekA : kA = kA.toList.toArray := by simp
      rw [ekA] at pk ⊢
      have lk : kA.toList.length = vs.length := by rw [Array.length_toList]; omega
      refine key_end pk.1 pa.1 nak.symm (keys_ok J kv rk) lk h64 λ out so => ⟨_, rfl, wpAny_pure ⟨_, rfl, ?_⟩⟩
      obtain ⟨on, oi⟩ := out_n hi so
      have u5 := Heap.SameBut.update s'.heap (s.heap.objs.size + 2) (Obj.mapSeq λ _ => (#[] : Array Value))
      have oa : (s'.heap.update (s.heap.objs.size + 2) (Obj.mapSeq λ _ => (#[] : Array Value))).get? (s.heap.objs.size) = some (seqObj "list" #[] e1) := (u5.2 _ nak).trans pa.1
      have u6 := Heap.SameBut.update (s'.heap.update (s.heap.objs.size + 2) (Obj.mapSeq λ _ => (#[] : Array Value))) (s.heap.objs.size) (Obj.mapSeq λ _ => out.toArray)
      obtain ⟨c6, hc6⟩ : ∃ c6, ((s'.heap.update (s.heap.objs.size + 2) (Obj.mapSeq λ _ => (#[] : Array Value))).update (s.heap.objs.size) (Obj.mapSeq λ _ => out.toArray)).get? (s.heap.objs.size) = some (seqObj "list" out.toArray c6) := ⟨_, get?_update_seq oa λ _ => out.toArray⟩
      have J3 : Inv X ((s.heap.objs.size + 2, seqObj "list" kA e) :: pins) σ H' s' := J.pins_of λ p hp => J.pin p (List.mem_append_right _ (List.mem_cons_of_mem _ hp))
      have J4 : Inv X pins σ H' { s' with heap := s'.heap.update (s.heap.objs.size + 2) (Obj.mapSeq λ _ => (#[] : Array Value)) } := J3.turn1 (t' := s'.toks) (fk H' pk.2.1) u5
      have J5 : Inv X pins σ H' { s' with heap := (s'.heap.update (s.heap.objs.size + 2) (Obj.mapSeq λ _ => (#[] : Array Value))).update (s.heap.objs.size) (Obj.mapSeq λ _ => out.toArray) } := (J4.repin (fa H' pa.2.1) oa (λ v z => by cases z)).turn1 (t' := s'.toks) (fa H' pa.2.1) u6
      have lo : out.length < 64 := by
        obtain ⟨zs, pm, rfl, _⟩ := so
        have := pm.length_eq
        simp at this ⊢; omega
      have J6 := J5.adopt (o := .lst ((out.map intOf).map V.int)) (fa H' pa.2.1) (I.sz) ⟨by simp [sizeLine_eq]; omega, out, c6, vals_intsK oi, hc6⟩
      exact ⟨.ref _, _, J6, rfl, fin _ _ pa.2.1 on⟩
  exact goal _ sz3
end
end L2
namespace L2
open PySem PySem.Spec PyProof.Rows PySem.W
def Src (K : PySem.W.Frag) (H : Hp) (a : Addr) (ns : List Int) : Prop := SqT K H a (ns.map V.int) ∨ ∃ n : Nat, n < 64 /\ H a = some (.rng 0 n) /\ ns = (List.range n).map λ k : Nat => (k : Int)
def tSortK (K : PySem.W.Frag) (P : Addr) (q : Str) (pos : Pos) (ix : List Nat) (te tb : TE) : TE := λ σ H Q => te σ H λ v H1 => ∃ (a : Addr) (ns : List Int) (ps : Array Value), v = .ref a /\ Src K H1 a ns /\ ns.length < 64 /\ H1 P = some (.tbl ps) /\ GoodT H1 q pos ps /\
  ∀ H2 c, TabStep P q pos H1 H2 -> H2 c = some (.ext (cdF c q)) -> keyGo (λ H => H c = some (.ext (cdF c q))) tb (ix.map λ i => (σ[i]?).join) ns H2 λ ks H3 => ∃ kz, KeysV K H3 ks kz /\ ∀ p ms, H3 p = none -> OutN kz ns ms -> Q (.ref p) (upd H3 p (.lst (ms.map V.int)))
theorem TabStep.rd {P : Addr} {q : Str} {pos : Pos} {H H' : Hp} {ps : Array Value} (t : TabStep P q pos H H') (hP : H P = some (.tbl ps)) {a : Addr} {xs : List V} (r : Rd H a (.tup xs)) : Rd H' a (.tup xs) := by
  rcases t with rfl | ⟨c, hc, _, rfl⟩
  . exact r
  . have ne : ∀ u, H a = some u -> (∀ ps, u ≠ .tbl ps) -> upd (upd H P (.tbl #[rawInt pos.line, rawInt pos.col, .ref c])) c (.ext (cdF c q)) a = some u := λ u e n => by
      rw [upd_ne (ne_of_none e hc), upd_ne (λ z => by subst z; rw [hP] at e; cases e; exact n _ rfl)]; exact e
    rcases r with r | ⟨o, r⟩
    . exact .inl (ne _ r λ ps z => by cases z)
    . exact .inr ⟨o, ne _ r λ ps z => by cases z⟩
theorem TabStep.sqt {K : PySem.W.Frag} {P : Addr} {q : Str} {pos : Pos} {H H' : Hp} {ps : Array Value} (t : TabStep P q pos H H') (hP : H P = some (.tbl ps)) {a : Addr} {xs : List V} (r : SqT K H a xs) : SqT K H' a xs := by
  rcases r with r | r
  . exact .inl (t.rd hP r)
  . exact .inr r
theorem TabStep.src {K : PySem.W.Frag} {P : Addr} {q : Str} {pos : Pos} {H H' : Hp} {ps : Array Value} (t : TabStep P q pos H H') (hP : H P = some (.tbl ps)) {a : Addr} {ns : List Int} (r : Src K H a ns) : Src K H' a ns := by
  rcases r with r | ⟨n, h, e, z⟩
  . exact .inl (t.sqt hP r)
  . refine .inr ⟨n, h, ?_, z⟩
    rcases t with rfl | ⟨c, hc, _, rfl⟩
    . exact e
    . rw [upd_ne (ne_of_none e hc), upd_ne (λ z => by subst z; rw [hP] at e; cases e)]; exact e
theorem ints_range {n : Nat} {acc : Array Value} (it : ItemsOf (λ i v => ∃ t, v = .int (0 + i * 1) t) acc n) : IntsAre acc.toList ((List.range n).map λ k : Nat => (k : Int)) := by
  have := items_vals (lo := 0) it
  have e : rangeV 0 n = ((List.range n).map λ k : Nat => (k : Int)).map V.int := by
    have : ∀ (lo : Nat) (n : Nat), rangeV (lo : Int) n = ((List.range' lo n).map λ k : Nat => (k : Int)).map V.int := by
      intro lo n
      induction n generalizing lo with
      | zero => rfl
      | succ n ih => rw [rangeV, List.range'_succ]; simp only [List.map_cons]; rw [<- ih (lo + 1)]; rfl
    rw [List.range_eq_range']
    exact this 0 n
  rw [e] at this
  exact ints_vals rfl this
section
variable {X : Cx} {c P : Addr} {scope : Scope} {fr : List Str} {ix : List Nat} {prm : Str} {params : Arguments} {body e : Expr} {p pos lpos kpos : Pos} {te tb : TE}
theorem pe_sortK (LA : LamAt X c P) (S : CSc X scope fr ix) (L : LSc scope prm) (hr : Room 3 X.A) (hcm : X.calm = true) (hg : Gl X "sorted") (hm : X.mg "sorted" = none)
    (hbind : ∀ (cl : List (Str × Addr)) (pm cd ctv us : Value), bindArgs (kla_fn "<lambda>" (X.env.qual ++ "<lambda>") params body scope cl pm cd ctv) ⟨[us], []⟩ = pure [(prm, us)])
    (he : PE X e te) (hb : ∀ (f : Addr) (cd : Value) (s : Shared) (H : Hp), PE (lCx X X.A.in1.in1 (prm :: fr) (X.env.qual ++ "<lambda>") scope f cd (closOf X.env.cells scope.names []) s H) body tb)
    (hdef : defaultsOf params X.env = ([], []) := by rfl) (hs : starEach [e] X.env = [(false, eval e X.env)] := by rfl) :
    PE X (.Call (.Name "sorted" p) [e] [⟨some "key", .Lambda params body scope lpos, kpos⟩] pos) (tSortK X.K P (X.env.qual ++ "<lambda>") lpos ix te tb) := by
  intro pins s σ H Q I h
  have PAe : PA X [e] (tCons te tNil) := pa_cons he pa_nil hs
  refine wpAny_Call_Name_kw (ld_blt (u := .builtin "sorted") I hg hm bt_sorted ?_)
  have pl : (backTo pos (starEach [e] X.env)).any (·.1) = false := by rw [hs]; rfl
  refine callWith_builtin_kwB pl rfl (evalArgs_kw2 (env := X.env) (e := e) (rest := []) (kws := [⟨some "key", .Lambda params body scope lpos, kpos⟩]) rfl (thn (PAe pos pins s σ H (λ vs H1 => match vs with
    | [v] => ∃ (a : Addr) (ns : List Int) (ps : Array Value), v = .ref a /\ Src X.K H1 a ns /\ ns.length < 64 /\ H1 P = some (.tbl ps) /\ GoodT H1 (X.env.qual ++ "<lambda>") lpos ps /\
        ∀ H2 c, TabStep P (X.env.qual ++ "<lambda>") lpos H1 H2 -> H2 c = some (.ext (cdF c (X.env.qual ++ "<lambda>"))) -> keyGo (λ H => H c = some (.ext (cdF c (X.env.qual ++ "<lambda>")))) tb (ix.map λ i => (σ[i]?).join) ns H2 λ ks H3 => ∃ kz, KeysV X.K H3 ks kz /\ ∀ p ms, H3 p = none -> OutN kz ns ms -> Q (.ref p) (upd H3 p (.lst (ms.map V.int)))
    | _ => False) I h) λ us s1 hq => ?_) hs)
  obtain ⟨vs, H1, I1, r, q⟩ := hq
  match vs, q with
  | [v], q =>
  obtain ⟨a, ns, ps, rfl, sq, h64, hP, hg1, go⟩ := q
  obtain ⟨u, rfl, ru⟩ := vals1 r
  cases ru
  show wpAny _ _ (evalAll [(do let v <- eval (.Lambda params body scope lpos) X.env; standAt pos; pure v)]) _ _ s1
  refine wpAny_evalAll_cons (wpAny_bind (lam_make S LA I1 hdef hP hg1 λ f cd ctv H2 s2 I2 M => wpAny_bind (wpAny_standAt (wpAny_pure (wpAny_evalAll_nil ?_)))))
  show wpAny _ _ (call (.builtin "sorted") [.ref a] [(Str.ofString "key", .ref f)]) _ _ s2
  have sq2 := M.step.src hP sq
  obtain ⟨c', rfl, hc'⟩ := M.cdc
  have ff : FpOk X pins H2 f := I1.fpOk M.new M.fre
  have I3 := I2.repin ff M.fn (λ v z => by cases z)
  refine wpAny_mono (sorted_key (pins := (f, _) :: pins) I3 h64 (λ Q E hq => ?_) (λ pins' H' s' n u Q1 sub J ru hG hq => ?_) (go H2 c' M.step hc')) (λ v s' hv => ?_) λ _ _ z => z
  . rcases sq2 with sq2 | ⟨n, hn, er, rfl⟩
    . obtain ⟨its, rv, tp, _⟩ := I2.tuple sq2
      have hi : IntsAre its ns := ints_vals rfl rv
      have hlen : its.length <= sizeLine := by have := hi.length; rw [sizeLine_eq]; omega
      refine collect_tup tp (hq _ s2.toks its (λ b o q => ?_) hi) hlen
      have hlt : b < s2.heap.objs.size := Heap.lt_size q
      rw [Heap.get?_update_ne _ _ _ _ (Nat.ne_of_lt hlt), Heap.get?_push_ne _ _ _ (Nat.ne_of_lt hlt)]
      exact q
    . obtain ⟨t, u, v, hr'⟩ : ∃ t u v, s2.heap.get? a = some { cls := .type "range", data := .fields #[.int 0 t, .int n u, .int 1 v] } := I2.hok a _ er
      refine rng_collect (n := n) (I2.ok.hd hcm) hr' (small_one (by omega) (by omega) (by omega) (by omega)) (by rw [rsize]; omega) (by omega) λ g tk acc kp it => hq g tk _ kp (ints_range it)
  . have pf := J.pin (f, _) (List.mem_append_right _ (sub _ List.mem_cons_self))
    exact lam_call (A := X.A.in1.in1) (f := f) S L J rfl hr.in1.in1 pf.1 (J.hok c' _ hG).1 (λ us => hbind _ _ _ _ us) (λ s H => hb f _ s H) ru hq
  . obtain ⟨y, H', J, ry, qy⟩ := hv
    exact ⟨y, H', J.pins_of λ p hp => J.pin p (List.mem_append_right _ (List.mem_cons_of_mem _ hp)), ry, qy⟩
end
end L2
namespace L2
open PySem PySem.Spec PyProof.Rows PySem.W
def TabIn (K : PySem.W.Frag) (P : Addr) (q : Str) (pos : Pos) : Prop := ∃ p' : Pos, (P, q, p') ∈ tabsOf K /\ ((tabsOf K).map (·.1)).Nodup /\ p'.line = pos.line /\ p'.col = pos.col
open Classical in
noncomputable def keyNum (ds : List D) : Option (List Int) := match intsD ds with
  | some ns => some ns
  | none => match pairsD ds with
    | some ps => if ∀ p ∈ ps, pok p then some (ps.map pkey) else none
    | none => none
open Classical in
noncomputable def keysD (mb : ME) (cap : Ls) (hd : Hd) : List Int -> Option (List D)
  | [] => some []
  | n :: r => match mb (some (.im (.int n)) :: cap) hd with
    | some (k, h) => match keysD mb cap hd r with
      | some ks => if h = hd then some (k :: ks) else none
      | none => none
    | none => none
theorem keysD_len {mb : ME} {cap : Ls} {hd : Hd} : ∀ {ns : List Int} {ks : List D}, keysD mb cap hd ns = some ks -> ks.length = ns.length
  | [], ks, e => by cases e; rfl
  | n :: r, ks, e => by
    unfold keysD at e
    split at e
    . split at e
      . next ks' e2 =>
        split at e
        . cases e; simp [keysD_len e2]
        . cases e
      . cases e
    . cases e
theorem keyNum_len {ds : List D} {kz : List Int} (e : keyNum ds = some kz) : kz.length = ds.length := by
  unfold keyNum at e
  split at e
  . next ns e6 => cases e; rw [intsD_eq e6]; simp
  . split at e
    . next ps e6 =>
      split at e
      . cases e; rw [pairsD_eq e6]; simp
      . cases e
    . cases e
def sortK (kz ns : List Int) : List Int := ((kz.zip ns).mergeSort λ a b => decide (a.1 <= b.1)).map (·.2)
theorem out_uniq {kz ns ms : List Int} (nd : kz.Nodup) (hl : kz.length = ns.length) (o : OutN kz ns ms) : ms = sortK kz ns := by
  obtain ⟨zs, pm, pw, rfl⟩ := o
  have pm2 : ((kz.zip ns).mergeSort λ a b => decide (a.1 <= b.1)).Perm (kz.zip ns) := List.mergeSort_perm ..
  have pw2 : ((kz.zip ns).mergeSort λ a b => decide (a.1 <= b.1)).Pairwise λ a b => a.1 <= b.1 := by
    have := List.pairwise_mergeSort (le := λ a b : Int × Int => decide (a.1 <= b.1)) (by intro a b c h1 h2; simp at *; omega) (by intro a b; simp; omega) (kz.zip ns)
    exact this.imp (by simp)
  have inj : ∀ a ∈ kz.zip ns, ∀ b ∈ kz.zip ns, a.1 = b.1 -> a = b := by
    intro a ha b hb e
    obtain ⟨i, hi⟩ := List.mem_iff_getElem?.mp ha
    obtain ⟨j, hj⟩ := List.mem_iff_getElem?.mp hb
    obtain ⟨i1, i2⟩ := List.getElem?_zip_eq_some.mp hi
    obtain ⟨j1, j2⟩ := List.getElem?_zip_eq_some.mp hj
    rw [e] at i1
    have : i = j := (List.getElem?_inj (List.getElem?_eq_some_iff.mp i1).1 nd).mp (i1.trans j1.symm)
    subst this
    rw [i2] at j2
    exact Prod.ext e (Option.some.inj j2)
  have : zs = (kz.zip ns).mergeSort λ a b => decide (a.1 <= b.1) :=
    (pm.trans pm2.symm).eq_of_pairwise (le := λ a b => a.1 <= b.1) (λ a b ha hb h1 h2 => inj a (pm.mem_iff.mp ha) b (pm2.mem_iff.mp hb) (Int.le_antisymm h1 h2)) pw pw2
  rw [this]; rfl
def intsR (m : MA) : Ls -> Hd -> Option (List Int × Hd) := λ ls hd => (m ls hd).bind λ p => match p.1 with
  | [.im (.int j)] => if 0 <= j /\ j < 64 then some ((List.range j.toNat).map λ k : Nat => (k : Int), p.2) else none
  | _ => none
open Classical in
noncomputable def mSortG (src : Ls -> Hd -> Option (List Int × Hd)) (ix : List Nat) (mb : ME) : MA := λ ls hd => (src ls hd).bind λ p => (keysD mb (ix.map λ i => (ls[i]?).join) p.2 p.1).bind λ ks => (keyNum ks).bind λ kz =>
  if p.1.length < 64 /\ kz.Nodup then some ((sortK kz p.1).map λ i => .im (.int i), p.2) else none
noncomputable abbrev mSortKR (m : MA) (ix : List Nat) (mb : ME) : MA := mSortG (intsR m) ix mb
def RSrc (K : PySem.W.Frag) (te : TE) (src : Ls -> Hd -> Option (List Int × Hd)) : Prop := ∀ (ρ : List Addr) (σ : St) (H : Hp) (hd : Hd) (ls : Ls) (Q : VK) (ns : List Int) (hd' : Hd), RH K ρ H hd -> RL K ρ H ls σ -> src ls hd = some (ns, hd') ->
  (∀ ρ1 H1 a, Ext ρ H ρ1 H1 -> RH K ρ1 H1 hd' -> Src K H1 a ns -> Q (.ref a) H1) -> te σ H Q
section
variable {K : PySem.W.Frag} {ρ : List Addr} {H : Hp} {hd : Hd}
theorem tab_step {P : Addr} {q : Str} {pos : Pos} {H2 : Hp} {ps : Array Value} (R : RH K ρ H hd) (hP : H P = some (.tbl ps)) (t : TabStep P q pos H H2) (TI : TabIn K P q pos) : RH K ρ H2 hd /\ Ext ρ H ρ H2 := by
  rcases t with rfl | ⟨c, hc, ncP, rfl⟩
  . exact ⟨R, .refl⟩
  . obtain ⟨p', et, nd, e1, e2⟩ := TI
    have nP : ∀ b, b ∈ ρ -> b ≠ P := λ b hb z => by
      subst z
      rcases R.mut hb with ⟨y, w⟩ | ⟨y, w⟩ <;> (rw [hP] at w; cases w)
    have nc : ∀ b u, H b = some u -> b ≠ c := λ b u e => ne_of_none e hc
    have ex : Ext ρ H ρ (upd (upd H P (.tbl #[rawInt pos.line, rawInt pos.col, .ref c])) c (.ext (cdF c q))) := by
      refine ⟨⟨[], by simp, by simp⟩, λ b o e nb nt' => ?_, λ b ps e => ?_⟩
      . rw [upd_ne (nc b _ e), upd_ne (λ z => by subst z; rw [hP] at e; cases e; exact nt' _ rfl)]; exact e
      . by_cases z : b = P
        . subst z; exact ⟨_, by rw [upd_ne (nc _ _ hP), upd_same]⟩
        . exact ⟨ps, by rw [upd_ne (nc b _ e), upd_ne z]; exact e⟩
    refine ⟨⟨R.len, R.nd, λ x hx => ?_, λ n o a h1 h2 => ?_⟩, ex⟩
    . by_cases hxP : x.1 = P
      . have ex : x = (P, q, p') := by
          obtain ⟨i, hi⟩ := List.mem_iff_getElem?.mp hx
          obtain ⟨j, hj⟩ := List.mem_iff_getElem?.mp et
          have i1 : ((tabsOf K).map (·.1))[i]? = some P := by rw [List.getElem?_map, hi]; simp [hxP]
          have j1 : ((tabsOf K).map (·.1))[j]? = some P := by rw [List.getElem?_map, hj]; rfl
          have : i = j := (List.getElem?_inj (List.getElem?_eq_some_iff.mp i1).1 nd).mp (i1.trans j1.symm)
          subst this
          exact Option.some.inj (hi.symm.trans hj)
        subst ex
        refine ⟨#[rawInt pos.line, rawInt pos.col, .ref c], by rw [upd_ne (nc _ _ hP), upd_same], .inr ⟨c, ?_, upd_same⟩⟩
        show #[rawInt pos.line, rawInt pos.col, Value.ref c] = #[rawInt p'.line, rawInt p'.col, Value.ref c]
        rw [e1, e2]
      . obtain ⟨ps', hx1, hG⟩ := R.tabs x hx
        refine ⟨ps', by rw [upd_ne (nc _ _ hx1), upd_ne hxP]; exact hx1, ?_⟩
        rcases hG with g | ⟨c', g1, g2⟩
        . exact .inl g
        . exact .inr ⟨c', g1, by rw [upd_ne (nc _ _ g2), upd_ne (λ z => by subst z; rw [hP] at g2; cases g2)]; exact g2⟩
    . obtain ⟨ho, q1, q2⟩ := R.ob n o a h1 h2
      exact ⟨ho, by rw [upd_ne (nc a _ q1), upd_ne (nP a (List.mem_of_getElem? h2))]; exact q1, by simpa using q2.mono (ex.grow R) []⟩
theorem keys_go {tb : TE} {mb : ME} {ix : List Nat} {q : Str} {c : Addr} (hb : RE K tb mb) {ls : Ls} {σ : St} : ∀ {ns : List Int} {kds : List D} {ρ : List Addr} {H : Hp} {Q : List V -> Hp -> Prop}, RH K ρ H hd -> RL K ρ H ls σ -> H c = some (.ext (cdF c q)) ->
    keysD mb (ix.map λ i => (ls[i]?).join) hd ns = some kds -> (∀ ρ' H' ks, Ext ρ H ρ' H' -> RH K ρ' H' hd -> RDs K ρ' H' kds ks -> Q ks H') -> keyGo (λ H => H c = some (.ext (cdF c q))) tb (ix.map λ i => (σ[i]?).join) ns H Q
  | [], kds, ρ, H, Q, R, L, hc, e, k => by
    cases e
    exact k ρ H [] .refl R (by simp [RDs])
  | n :: r, kds, ρ, H, Q, R, L, hc, e, k => by
    unfold keysD at e
    split at e
    . next kd h e1 =>
      split at e
      . next ks e2 =>
        split at e
        . next eh =>
          cases e
          rw [eh] at e1
          refine ⟨hc, hb ρ _ H _ (some (.im (.int n)) :: ix.map λ i => (ls[i]?).join) _ kd _ R ⟨by simp, λ i d ei => ?_⟩ e1 λ ρ1 H1 v1 x1 R1 r1 => ?_⟩
          . cases i with
            | zero => cases ei; exact ⟨.int n, rfl, by simp [RD, RI]⟩
            | succ j =>
              have ei : (ix.map λ i => (ls[i]?).join)[j]? = some (some d) := ei
              rw [List.getElem?_map] at ei
              cases qj : ix[j]? with
              | none => rw [qj] at ei; cases ei
              | some m =>
                rw [qj] at ei
                have ei : (ls[m]?).join = some d := Option.some.inj ei
                have em : ls[m]? = some (some d) := by
                  cases w : ls[m]? with
                  | none => rw [w] at ei; cases ei
                  | some z => rw [w] at ei; simpa using ei
                obtain ⟨v, ev, rv⟩ := L.ob m d em
                refine ⟨v, ?_, rv⟩
                show (ix.map λ i => (σ[i]?).join)[j]? = some (some v)
                rw [List.getElem?_map, qj]
                simp [ev]
          . have oc : c ∉ ρ := λ m => by rcases R.mut m with ⟨y, w⟩ | ⟨y, w⟩ <;> (rw [hc] at w; cases w)
            refine keys_go hb R1 (L.ext R x1) (x1.keep c _ hc oc nt) e2 λ ρ2 H2 ks2 x2 R2 r2 => ?_
            exact k ρ2 H2 (v1 :: ks2) (x1.trans R1 x2) R2 (.cons (r1.ext R1 x2) r2)
        . cases e
      . cases e
    . cases e
theorem src_rng {t : TA} {m : MA} (h : RA K t m) : RSrc K (tCB rRange t) (intsR m) := by
  intro ρ σ H hd ls Q ns hd' hR hL hm k
  obtain ⟨⟨d1, h1⟩, e1, hm⟩ := Option.bind_eq_some_iff.mp hm
  dsimp only at hm
  refine h ρ σ H hd ls _ d1 h1 hR hL e1 λ ρ1 H1 v x1 R1 r1 => ?_
  split at hm
  . next j =>
    split at hm
    . next c =>
      cases hm
      simp only [RDs, RD, RI] at r1
      obtain ⟨x, r, rfl, rfl, rfl⟩ := r1
      refine .inl ⟨j, rfl, λ p hp => ?_⟩
      obtain ⟨R2, x2⟩ := R1.hid (ho := .rng 0 j) hp
      refine k ρ1 _ p (x1.trans R1 x2) R2 (.inr ⟨j.toNat, by omega, ?_, rfl⟩)
      rw [upd_same, Int.toNat_of_nonneg c.1]
    . cases hm
  . cases hm
theorem rn_sortK {te tb : TE} {src : Ls -> Hd -> Option (List Int × Hd)} {mb : ME} {P : Addr} {q : Str} {pos : Pos} {ix : List Nat} (hi : RSrc K te src) (hb : RE K tb mb) (TI : TabIn K P q pos) : RN K (tSortK K P q pos ix te tb) (mSortG src ix mb) := by
  intro ρ σ H hd ls Q d hd' hR hL hm hQ
  obtain ⟨⟨ns, h1⟩, e1, hm⟩ := Option.bind_eq_some_iff.mp hm
  obtain ⟨kds, e4, hm⟩ := Option.bind_eq_some_iff.mp hm
  obtain ⟨kz, e5, hm⟩ := Option.bind_eq_some_iff.mp hm
  dsimp only at hm e4
  split at hm
  . next cc =>
    cases hm
    refine hi ρ σ H hd ls _ ns _ hR hL e1 λ ρ1 H1 a x1 R1 sq => ?_
    obtain ⟨p', et, _, l1, l2⟩ := id TI
    obtain ⟨ps, hP, hG⟩ := R1.tabs (P, q, p') et
    have hG' : GoodT H1 q pos ps := by
      rcases hG with g | ⟨c, g1, g2⟩
      . exact .inl g
      . refine .inr ⟨c, ?_, g2⟩
        rw [g1]
        show #[rawInt p'.line, rawInt p'.col, Value.ref c] = _
        rw [l1, l2]
    refine ⟨a, ns, ps, rfl, sq, cc.1, hP, hG', λ H2 c step hc => ?_⟩
    obtain ⟨R2, x2⟩ := tab_step R1 hP step TI
    have x12 := x1.trans R1 x2
    refine keys_go hb R2 (hL.ext hR x12) hc e4 λ ρ3 H3 ks x3 R3 r3 => ?_
    have x13 := x12.trans R2 x3
    refine ⟨kz, ?_, λ p ms hp out => ?_⟩
    . unfold keyNum at e5
      split at e5
      . next ns' e6 =>
        cases e5
        rw [intsD_eq e6] at r3
        exact .inl r3.ints
      . split at e5
        . next ps' e6 =>
          split at e5
          . next ok =>
            cases e5
            rw [pairsD_eq e6] at r3
            refine .inr ⟨ps', rfl, ok, by have := r3.len; simp at this; omega, λ i k p ek ep => ?_⟩
            obtain ⟨w, ew, rw_⟩ := r3.get (i := i) (d := pairD p) (by rw [List.getElem?_map, ep]; rfl)
            rw [ek] at ew
            cases ew
            exact rd_pair rw_
          . cases e5
        . cases e5
    . have lz : kz.length = ns.length := by
        rw [keyNum_len e5, keysD_len e4]
      have := out_uniq cc.2 lz out
      subst this
      obtain ⟨R4, x4⟩ := R3.hid (ho := .lst ((sortK kz ns).map V.int)) hp
      exact hQ ρ3 _ p _ (x13.trans R3 x4) R4 (x13.none hR hp R3) (R3.out hp) upd_same ints_rd
  . cases hm
end
end L2
namespace L2
open PySem PySem.Spec PyProof.Rows PySem.W
structure LamC (K : PySem.W.Frag) (mg : Str -> Option Value) (base : Heap) (fd : FuncData) (c P : Addr) (q : Str) (pos : Pos) : Prop where
  code : fd.code = .ref c
  hd : CodeHd base c P
  bl : base.BuiltinsAt mg P
  ti : TabIn K P q pos
structure QSrc (K : PySem.W.Frag) (X : Cx) (e : Expr) (te : TE) (src : Ls -> Hd -> Option (List Int × Hd)) : Prop where
  p : PE X e te
  r : RSrc K te src
theorem qsrc_rng (K : PySem.W.Frag) {X : Cx} {a : Expr} {t : TA} {m : MA} {p2 pos2 : Pos} (hm2 : X.mg "range" = none) (ha : QA K X [a] t m) (hg2 : Gl X "range" := by rfl) (he2 : starEach [a] X.env = [(false, eval a X.env)] := by rfl) : QSrc K X (.Call (.Name "range" p2) [a] [] pos2) (tCB rRange t) (intsR m) :=
  ⟨pe_callTy (call_rng1.or call_rng2) hg2 hm2 boot_range ha.p (by decide) (by decide) he2 rfl, src_rng ha.r⟩
theorem qn_sortS (K : PySem.W.Frag) {src : Ls -> Hd -> Option (List Int × Hd)} {X : Cx} {c P : Addr} {scope : Scope} {fr : List Str} {ix : List Nat} {prm : Str} {params : Arguments} {body e : Expr} {p pos lpos kpos : Pos} {te tb : TE} {mb : ME} {k : Nat} (LA : LamAt X c P) (TI : TabIn K P (X.env.qual ++ "<lambda>") lpos) (S : CSc X scope fr ix) (L : LSc scope prm) (hr : Room k X.A) (h3 : 3 <= k) (hm : X.mg "sorted" = none)
    (he : QSrc K X e te src) (hb : ∀ (f : Addr) (cd : Value) (s : Shared) (H : Hp), QE K (lCx X X.A.in1.in1 (prm :: fr) (X.env.qual ++ "<lambda>") scope f cd (closOf X.env.cells scope.names []) s H) body tb mb)
    (hbind : ∀ (cl : List (Str × Addr)) (pm cd ctv us : Value), bindArgs (kla_fn "<lambda>" (X.env.qual ++ "<lambda>") params body scope cl pm cd ctv) ⟨[us], []⟩ = pure [(prm, us)])
    (hcm : X.calm = true := by rfl) (hg : Gl X "sorted" := by rfl) (hdef : defaultsOf params X.env = ([], []) := by rfl) (hs : starEach [e] X.env = [(false, eval e X.env)] := by rfl) (hK : X.K = K := by rfl) :
    QN K X (.Call (.Name "sorted" p) [e] [⟨some "key", .Lambda params body scope lpos, kpos⟩] pos) (tSortK K P (X.env.qual ++ "<lambda>") lpos ix te tb) (mSortG src ix mb) := by
  subst hK
  exact ⟨pe_sortK LA S L (hr.mono h3) hcm hg hm hbind he.p (λ f cd s H => (hb f cd s H).p) hdef hs, rn_sortK he.r (hb 0 .none X.s₀ X.H₀).r TI⟩
theorem ok_dataC {P : Program} {w : World} {K : PySem.W.Frag} {mg : Str -> Option Value} {base : Heap} {x : Str} {st : Stmt} {f : Addr} {fd : FuncData} {N ps : List Str} {j : Nat} {m : MS} (DA : DefAt K mg x st f fd ps) (S : FnScope N ps (defScope st))
    (h : ∀ (cdv : Value) (A : Around) (outer : List Env) (s : Shared) (H : Hp) (E : XK), fd.code = cdv -> Room j (A.deeper (envOfC x (defScope st) s.heap.objs.size f cdv)) -> ∃ t, QSs K (cxOf CX0 P w K mg base N x (defScope st) f cdv A outer s H E).nox (defBody st) t m) :
    FnOk P w K mg base CX0 (j + 1) f fd ps (spF K ps.length (mkF ps.length N.length m)) := by
  obtain ⟨F, hmg, bd⟩ := DA
  obtain ⟨⟨oc, od, kV, doc, pm, an, cdv, ct, osl, rfl, lk, hcd⟩, kp⟩ := F
  refine fn_of lk hcd S (λ vs H Q E h => h.1) λ A outer s H vs Q E hr hs => ?_
  obtain ⟨t, q⟩ := h cdv A outer s H E rfl hr
  exact ⟨t, q.p.nox, sp_body q.r hs⟩
theorem sortK_spec (g : Int -> Int) (ns : List Int) : (sortK (ns.map g) ns).Perm ns /\ (sortK (ns.map g) ns).Pairwise λ a b => g a <= g b := by
  have pm : (((ns.map g).zip ns).mergeSort λ a b => decide (a.1 <= b.1)).Perm ((ns.map g).zip ns) := List.mergeSort_perm ..
  have pw : (((ns.map g).zip ns).mergeSort λ a b => decide (a.1 <= b.1)).Pairwise λ a b => a.1 <= b.1 := by
    have := List.pairwise_mergeSort (le := λ a b : Int × Int => decide (a.1 <= b.1)) (by intro a b c h1 h2; simp at *; omega) (by intro a b; simp; omega) ((ns.map g).zip ns)
    exact this.imp (by simp)
  have ez : (ns.map g).zip ns = ns.map λ n => (g n, n) := by
    clear pm pw
    induction ns with
    | nil => rfl
    | cons n r ih => simp [ih]
  have el : ∀ a ∈ (((ns.map g).zip ns).mergeSort λ a b => decide (a.1 <= b.1)), a.1 = g a.2 := λ a ha => by
    have := pm.mem_iff.mp ha
    rw [ez] at this
    obtain ⟨n, _, rfl⟩ := List.mem_map.mp this
    rfl
  refine ⟨?_, ?_⟩
  . have := pm.map (·.2)
    unfold sortK
    refine this.trans ?_
    rw [ez, List.map_map]
    have : ((λ x : Int × Int => x.2) ∘ λ n => (g n, n)) = id := rfl
    rw [this, List.map_id]
  . unfold sortK
    rw [List.pairwise_map]
    exact pw.imp_of_mem λ {a b} ha hb h => by rw [<- el a ha, <- el b hb]; exact h
theorem keysD_map {mb : ME} {cap : Ls} {hd : Hd} (kf : Int -> D) : ∀ {ns : List Int}, (∀ n ∈ ns, mb (some (.im (.int n)) :: cap) hd = some (kf n, hd)) -> keysD mb cap hd ns = some (ns.map kf)
  | [], _ => rfl
  | n :: r, h => by
    unfold keysD
    rw [h n List.mem_cons_self, keysD_map kf λ m hm => h m (List.mem_cons_of_mem _ hm)]
    simp
theorem keyNum_pairs {ps : List (Int × Int)} (hne : ps ≠ []) (hok : ∀ p ∈ ps, pok p) : keyNum (ps.map pairD) = some (ps.map pkey) := by
  unfold keyNum
  have : intsD (ps.map pairD) = none := by
    cases ps with
    | nil => exact absurd rfl hne
    | cons p r => rfl
  rw [this, pairsD_map]
  simp only [if_pos hok]
theorem nodup_inj {g : Int -> Int} {ns : List Int} (nd : ns.Nodup) (h : ∀ a ∈ ns, ∀ b ∈ ns, g a = g b -> a = b) : (ns.map g).Nodup := by
  rw [List.nodup_iff_pairwise_ne, List.pairwise_map]
  exact (List.nodup_iff_pairwise_ne.mp nd).imp_of_mem λ {a b} ha hb hne e => hne (h a ha b hb e)
theorem wa_sortS {src : Ls -> Hd -> Option (List Int × Hd)} {mb : ME} {ix : List Nat} {ls : Ls} {hd : Hd} {QA : List D -> Hd -> Prop} (h : ∃ ns x, src ls hd = some (ns, x) /\ ∃ (kf : Int -> Int × Int), ns.length < 64 /\ ns.Nodup /\ (∀ n ∈ ns, pok (kf n)) /\ (∀ a ∈ ns, ∀ b ∈ ns, pkey (kf a) = pkey (kf b) -> a = b) /\
      (∀ n ∈ ns, mb (some (.im (.int n)) :: ix.map λ i => (ls[i]?).join) x = some (pairD (kf n), x)) /\ ∀ ms : List Int, ms.Perm ns -> ms.Pairwise (λ a b => pkey (kf a) <= pkey (kf b)) -> QA (ms.map λ n => .im (.int n)) x) : WA (mSortG src ix mb) ls hd QA := by
  obtain ⟨ns, x, e, kf, h64, nd, ok, inj, ek, q⟩ := h
  have e2 := keysD_map (λ n => pairD (kf n)) ek
  by_cases hne : ns = []
  . subst hne
    refine ⟨[], x, ?_, q [] (.refl _) .nil⟩
    simp [mSortG, e, intsD, keysD, keyNum, sortK]
  . have e3 : keyNum (ns.map λ n => pairD (kf n)) = some (ns.map λ n => pkey (kf n)) := by
      have := keyNum_pairs (ps := ns.map kf) (by simpa using hne) (by simpa using ok)
      rw [List.map_map, List.map_map] at this
      exact this
    have sp := sortK_spec (λ n => pkey (kf n)) ns
    refine ⟨_, x, ?_, q _ sp.1 sp.2⟩
    simp only [mSortG, e, Option.bind_some, e2, e3, h64, nodup_inj nd inj, and_self, if_true]
theorem wa_sortPR {m : MA} {mb : ME} {ix : List Nat} {ls : Ls} {hd : Hd} {QA : List D -> Hd -> Prop} (h : WA m ls hd λ ds x => ∃ n : Nat, ds = [.im (.int (n : Int))] /\ n < 64 /\ ∃ (kf : Int -> Int × Int), (∀ k, k < n -> pok (kf k)) /\ (∀ a, a < n -> ∀ b, b < n -> pkey (kf a) = pkey (kf b) -> a = b) /\
      (∀ k : Nat, k < n -> mb (some (.im (.int k)) :: ix.map λ i => (ls[i]?).join) x = some (pairD (kf k), x)) /\ ∀ ms : List Int, ms.Perm ((List.range n).map λ k : Nat => (k : Int)) -> ms.Pairwise (λ a b => pkey (kf a) <= pkey (kf b)) -> QA (ms.map λ n => .im (.int n)) x) : WA (mSortKR m ix mb) ls hd QA := by
  obtain ⟨ds, x, e, n, rfl, hn, kf, ok, inj, ek, q⟩ := h
  have mem : ∀ z ∈ (List.range n).map λ k : Nat => (k : Int), ∃ k : Nat, k < n /\ z = k := λ z hz => by
    obtain ⟨k, hk, rfl⟩ := List.mem_map.mp hz
    exact ⟨k, by simpa using hk, rfl⟩
  refine wa_sortS ⟨(List.range n).map λ k : Nat => (k : Int), x, ?_, kf, by simpa using hn, ?_, λ z hz => ?_, λ y hy z hz => ?_, λ z hz => ?_, q⟩
  . have c : (0 : Int) <= n /\ (n : Int) < 64 := by omega
    simp only [intsR, e, Option.bind_some, if_pos c, Int.toNat_natCast]
  . rw [List.nodup_iff_pairwise_ne, List.pairwise_map]
    exact (List.nodup_iff_pairwise_ne.mp List.nodup_range).imp λ h => by omega
  . obtain ⟨k, hk, rfl⟩ := mem z hz; exact ok k hk
  . obtain ⟨k, hk, rfl⟩ := mem y hy
    obtain ⟨l, hl, rfl⟩ := mem z hz
    intro e
    rw [inj k hk l hl e]
  . obtain ⟨k, hk, rfl⟩ := mem z hz; exact ek k hk
end L2
namespace HT
open PySem PyProof.Rows
theorem noFill_tuple_mul : fillsNumberSlot (.type "tuple") "mul" = pure false :=
  PySem.fillsNumberSlot_seq (id := "tuple.__mul__") (r := some (.builtin "tuple.__rmul__")) F.slot_tuple_mul.lookup (by decide +kernel) F.slot_tuple_rmul.lookup (by decide +kernel)
theorem repeat_tuple : seqRepeat? (.type "tuple") = pure (some (.builtin "tuple.__mul__")) := by
  unfold seqRepeat?
  rw [PySem.seqSlot_of (T := "tuple") (name := "__mul__") (id := "tuple.__mul__") F.slot_tuple_mul.lookup (by decide +kernel), PySem.seqSlot_of (T := "tuple") (name := "__rmul__") (id := "tuple.__rmul__") F.slot_tuple_rmul.lookup (by decide +kernel)]
  rfl
theorem int_rmul_tuple (a : Int) (t : Tok) (l : Addr) (items : Array Value) (n : Nat) (dd : Option Addr) (sl : Array (Option Value)) :
    Meets (Builtin.«int.__rmul__» ⟨[.int a t, .ref l], []⟩) (λ _ R s => s.heap.get? l = some { cls := .type "tuple", dict := dd, data := .seq items n, slots := sl } /\ R (.ok (.ret Value.notImplemented)) s) :=
  .of_wp λ prog w A R s h => by obtain ⟨hp, g, d, tk, os⟩ := s; obtain ⟨hl, h⟩ := h; wp_walk; exact ⟨_, rfl, h⟩
theorem tuple_mul (l : Addr) (items : Array Value) (n : Nat) (dd : Option Addr) (sl : Array (Option Value)) (k : Int) (t : Tok) (h0 : items.isEmpty = false) (hk : 0 <= k /\ k <= 1000) (hs : items.size * k.toNat <= 100000) :
    Meets (Builtin.«tuple.__mul__» ⟨[.ref l, .int k t], []⟩) (λ _ R s => s.heap.get? l = some { cls := .type "tuple", dict := dd, data := .seq items n, slots := sl } /\ (k = 1 -> R (.ok (.ret (.ref l))) s) /\ (k ≠ 1 -> R (.ok (.ret (.ref s.heap.objs.size))) { s with heap := s.heap.push { cls := .type "tuple", data := .seq ((List.replicate k.toNat items).foldl (· ++ ·) #[]) } })) :=
  .of_wp λ prog w A R s h => by
    obtain ⟨hp, g, d, tk, os⟩ := s
    obtain ⟨hl, h1, h2⟩ := h
    have f1 := AutoSeq1.idx_int; have f2 := AutoSeq1.sub_tuple_tuple
    wp_walk using wpAny_loadPart' hl
    have c1 : ¬ (decide (k < -2 ^ 63) || decide (k >= 2 ^ 63)) = true := by simp; omega
    rw [if_neg c1]
    wp_walk using wpAny_loadPart' hl
    by_cases k1 : k = 1
    . rw [if_pos (by simp [k1])]
      wp_walk using wpAny_loadPart' hl
      exact ⟨_, rfl, h1 k1⟩
    . rw [if_neg (by simp [h0, k1])]
      have h2 := h2 k1
      by_cases k0 : k = 0
      . rw [if_pos (by simp [k0])]
        wp_walk using wpAny_loadPart' hl
        subst k0
        exact ⟨_, rfl, h2⟩
      . have c2 : ¬ ((items.size : Int) * k > (2 ^ 63 - 1) / 8) := by
          have e : (items.size : Int) * k = ((items.size * k.toNat : Nat) : Int) := by rw [Int.natCast_mul, Int.toNat_of_nonneg hk.1]
          rw [e]; omega
        have c3 : ¬ Builtin.Tuple.tupleTooMany ((items.size : Int) * k) = true := by
          have e : (items.size : Int) * k = ((items.size * k.toNat : Nat) : Int) := by rw [Int.natCast_mul, Int.toNat_of_nonneg hk.1]
          unfold Builtin.Tuple.tupleTooMany
          rw [e, sizeLine_eq, decide_eq_true_eq]; omega
        rw [if_neg (by simp [h0]; omega)]
        dsimp only
        rw [if_neg c2, if_neg c3]
        have hz : (List.foldl (λ x1 x2 => x1 ++ x2) #[] (List.replicate k.toNat items)).size <= sizeLine := by
          have : ∀ (m : Nat) (a : Array Value), (List.foldl (λ x1 x2 => x1 ++ x2) a (List.replicate m items)).size = a.size + items.size * m := by
            intro m
            induction m with
            | zero => intro a; simp
            | succ m ih => intro a; rw [List.replicate_succ, List.foldl_cons, ih, Array.size_append, Nat.mul_succ]; omega
          rw [this, sizeLine_eq]; simp; omega
        unfold Builtin.Tuple.tupleExact
        refine wpAny_bind (wpAny_newObj_type ?_ hz)
        exact wpAny_pure ⟨_, rfl, h2⟩
end HT
namespace L2
open PySem PySem.Spec PyProof.Rows
section
variable {X : Cx}
def rRepT (K : PySem.W.Frag) : R2 := λ x y H Q => ∃ l k xs, x = .ref l /\ y = .int k /\ SqT K H l xs /\ xs ≠ [] /\ (0 <= k /\ k <= 1000) /\ xs.length * k.toNat <= 100000 /\ (k = 1 -> Q (.ref l) H) /\
  (k ≠ 1 -> ∀ p, H p = none -> Q (.ref p) (upd H p (.tup (List.replicate k.toNat xs).flatten)))
theorem op_repT (K : PySem.W.Frag) (hK : X.K = K := by rfl) : OpR X (binaryOp .Mult) (rRepT K) := by
  subst hK
  intro pins s σ H x y v u Q I rx ry h
  obtain ⟨l, k, xs, rfl, rfl, hH, hne, hk, hz, q1, q2⟩ := h
  cases rx
  obtain ⟨t, rfl⟩ := ry
  obtain ⟨its, r, p, _⟩ := I.tuple hH
  obtain ⟨⟨cls, dd, data, sl⟩, ho, hc, n, hd⟩ := id p
  simp only at hc hd
  subst hc hd
  have ht : s.TypeIs (.ref l) "tuple" := ⟨_, ho, rfl⟩
  have hn : its ≠ [] := λ z => hne (r.nil_iff.mp z)
  have hl : its.length = xs.length := r.length.symm
  refine wpAny_binaryOp_repeat_ref (T := "tuple") (U := "int") (by decide) ht (λ s' => typeIs_int s' k t) HT.noFill_tuple_mul F.fills_int_mul F.slot_int_rmul HT.repeat_tuple F.slot_int_index.lookup
    (call_meets F.slot_int_rmul (typeIs_int s k t) F.entry_int_rmul (F.args_int_rmul_2 _ _) (HT.int_rmul_tuple k t l its.toArray n dd sl)
      ⟨ho, rfl, ht, call_meets F.slot_tuple_mul ht F.entry_tuple_mul (F.args_tuple_mul_2 _ _) (HT.tuple_mul l its.toArray n dd sl k t (by cases its with | nil => exact absurd rfl hn | cons a r => rfl) hk (by rw [List.size_toArray, hl]; exact hz)) ⟨ho, λ e => ?_, λ e => ?_⟩⟩)
  . exact ⟨.ref l, H, I, rfl, q1 e⟩
  . have f0 := foldl_rep its k.toNat []
    rw [List.nil_append] at f0
    rw [f0]
    refine ⟨.ref s.heap.objs.size, _, I.laid (t' := s.toks) (o := .tup (List.replicate k.toNat xs).flatten) (λ b ob q => Heap.get?_push_of_some _ q) (Nat.le_refl _) ?_, rfl, q2 e _ (I.hok.fresh (Nat.le_refl _))⟩
    exact ⟨by rw [len_rep, sizeLine_eq, Nat.mul_comm]; omega, _, r.rep k.toNat, IsTup.new _ _⟩
end
section
variable {K : PySem.W.Frag}
def mRepT (ma mb : ME) : ME := λ ls hd => (ma ls hd).bind λ p => (mb ls p.2).bind λ q => match p.1, q.1 with
  | .im (.tup is), .im (.int k) => if is ≠ [] /\ (0 <= k /\ k <= 1000) /\ is.length * k.toNat <= 100000 then some (.im (.tup (List.replicate k.toNat is).flatten), q.2) else none
  | _, _ => none
theorem re_repT {ta tb : TE} {ma mb : ME} (ha : RE K ta ma) (hb : RE K tb mb) : RE K (tOp (rRepT K) ta tb) (mRepT ma mb) := by
  intro ρ σ H hd ls Q d hd' hR hL hm hQ
  obtain ⟨⟨d1, h1⟩, e1, hm⟩ := Option.bind_eq_some_iff.mp hm
  obtain ⟨⟨d2, h2⟩, e2, hm⟩ := Option.bind_eq_some_iff.mp hm
  dsimp only at hm
  split at hm
  . next is k _ =>
    split at hm
    . next c =>
      cases hm
      refine ha ρ σ H hd ls _ _ h1 hR hL e1 λ ρ1 H1 v1 x1 R1 r1 => ?_
      refine hb ρ1 σ H1 h1 ls _ _ _ R1 (hL.ext hR x1) e2 λ ρ2 H2 v2 x2 R2 r2 => ?_
      simp only [RD, RI] at r2
      subst r2
      have r1 := r1.ext R1 x2
      obtain ⟨a, xs, rfl, sq, rs⟩ := r1.tup (ds := is.map D.im) rfl
      have hl : xs.length = is.length := by have := rs.len; simpa using this
      refine ⟨a, k, xs, rfl, rfl, sq, λ z => c.1 (List.length_eq_zero_iff.mp (by rw [<- hl, z]; rfl)), c.2.1, by rw [hl]; exact c.2.2, λ e => ?_, λ e p hp => ?_⟩
      . subst e
        refine hQ ρ2 H2 _ (x1.trans R1 x2) R2 ?_
        simpa using r1
      . obtain ⟨R3, x3⟩ := R2.hid (ho := .tup (List.replicate k.toNat xs).flatten) hp
        refine hQ ρ2 _ _ ((x1.trans R1 x2).trans R2 x3) R3 ?_
        have e3 : D.im (.tup (List.replicate k.toNat is).flatten) = mkTup ((List.replicate k.toNat is).flatten.map D.im) := (mkTup_im _).symm
        rw [e3]
        refine rd_mkTup (SqT.of upd_same) ?_
        have := ((rs.rep k.toNat).ext R2 x3)
        have e4 : (List.replicate k.toNat is).flatten.map D.im = (List.replicate k.toNat (is.map D.im)).flatten := by rw [List.map_flatten, List.map_replicate]
        rw [e4]; exact this
    . cases hm
  . cases hm
theorem qe_repT (K : PySem.W.Frag) {X : Cx} {a b : Expr} {ta tb : TE} {ma mb : ME} {pos : Pos} (ha : QE K X a ta ma) (hb : QE K X b tb mb) (hK : X.K = K := by rfl) : QE K X (.BinOp a .Mult b pos) (tOp (rRepT K) ta tb) (mRepT ma mb) := ⟨pe_op (op_repT K hK) ha.p hb.p, re_repT ha.r hb.r⟩
theorem we_repT {ma mb : ME} {ls : Ls} {hd : Hd} {QE : D -> Hd -> Prop} (h : WE ma ls hd λ d x => WE mb ls x λ e y => ∃ is k, d = .im (.tup is) /\ e = .im (.int k) /\ is ≠ [] /\ (0 <= k /\ k <= 1000) /\ is.length * k.toNat <= 100000 /\ QE (.im (.tup (List.replicate k.toNat is).flatten)) y) : WE (mRepT ma mb) ls hd QE := by
  obtain ⟨d, x, e1, e, y, e2, is, k, rfl, rfl, c1, c2, c3, q⟩ := h
  exact ⟨_, _, by simp only [mRepT, e1, Option.bind_some, e2]; rw [if_pos ⟨c1, c2, c3⟩], q⟩
end
end L2
namespace HT
open PySem PyProof.Rows
open PySem.AutoSeq1 (wpAny_loadPart')
section
variable {prog : Program} {w : World} {A : Around} {E : Value -> Shared -> Prop} {s : Shared}
theorem nextOf_tup_item {it t : Addr} {i : Nat} {items : Array Value} {x : Value} {Q : Value -> Shared -> Prop} (hit : s.heap.IsTupleIter it t i) (ht : s.heap.IsTuple t items) (hx : items[i]? = some x)
    (hQ : ∀ h', h'.IsTupleIter it t (i + 1) -> Heap.SameBut it s.heap h' -> Q x { s with heap := h' }) : wpAny (model prog w) A (Builtin.SmallTypes.nextOf (.ref it)) Q E s := by
  obtain ⟨o, ho, hc, hd⟩ := id hit
  obtain ⟨ol, hol, _, nl, hdl⟩ := ht
  unfold Builtin.SmallTypes.nextOf
  refine wpAny_bind (wpAny_callSpecial?_slot (name := Str.ofString "__next__") hit.typeIs F.slot_tuple_iterator_next
    (wpAny_call_entry F.slot_tuple_iterator_next hit.typeIs F.entry_tuple_iterator_next ?_ (F.args_tuple_iterator_next_1 _)))
  show wpAny _ _ (field (.ref it) 0 >>= _) _ _ s
  refine wpAny_bind (wpAny_field ho hd (x := .ref t) rfl ?_)
  show wpAny _ _ (if (Value.ref t == Value.none) = true then _ else _) _ _ s
  rw [if_neg (show ¬ ((Value.ref t == Value.none) = true) from Bool.false_ne_true)]
  show wpAny _ _ (field (.ref it) 1 >>= _) _ _ s
  refine wpAny_bind (wpAny_field ho hd (x := .int i 0) rfl ?_)
  show wpAny _ _ (seqItems? (.ref t) >>= _) _ _ s
  refine wpAny_bind (wpAny_seqItems hol hdl ?_)
  simp only [Int.toNat_natCast, hx]
  refine wpAny_bind (wpAny_setField ho hd (by simp) (wpAny_pure ⟨x, rfl, wpAny_pure (hQ _ ?_ (Heap.SameBut.update ..))⟩))
  exact ⟨_, Heap.get?_update_self _ ho (Obj.isFreed_of_fields (Obj.data_mapFields hd _)), (Obj.cls_mapFields ..).trans hc, by rw [Obj.data_mapFields hd]; simp [rawInt]⟩
theorem nextOf_tup_end {it t : Addr} {i : Nat} {items : Array Value} {Q : Value -> Shared -> Prop} (hh : A.handled = none) (hit : s.heap.IsTupleIter it t i) (ht : s.heap.IsTuple t items) (hx : items[i]? = none)
    (hE : ∀ h' e, Heap.ExtBut it s.heap h' -> (∃ o, h'.get? e = some o /\ o.cls = .type "StopIteration") -> E (.ref e) { s with heap := h' }) : wpAny (model prog w) A (Builtin.SmallTypes.nextOf (.ref it)) Q E s := by
  obtain ⟨o, ho, hc, hd⟩ := id hit
  obtain ⟨ol, hol, _, nl, hdl⟩ := ht
  unfold Builtin.SmallTypes.nextOf
  refine wpAny_bind (wpAny_callSpecial?_slot (name := Str.ofString "__next__") hit.typeIs F.slot_tuple_iterator_next
    (wpAny_call_entry F.slot_tuple_iterator_next hit.typeIs F.entry_tuple_iterator_next ?_ (F.args_tuple_iterator_next_1 _)))
  show wpAny _ _ (field (.ref it) 0 >>= _) _ _ s
  refine wpAny_bind (wpAny_field ho hd (x := .ref t) rfl ?_)
  show wpAny _ _ (if (Value.ref t == Value.none) = true then _ else _) _ _ s
  rw [if_neg (show ¬ ((Value.ref t == Value.none) = true) from Bool.false_ne_true)]
  show wpAny _ _ (field (.ref it) 1 >>= _) _ _ s
  refine wpAny_bind (wpAny_field ho hd (x := .int i 0) rfl ?_)
  show wpAny _ _ (seqItems? (.ref t) >>= _) _ _ s
  refine wpAny_bind (wpAny_seqItems hol hdl ?_)
  simp only [Int.toNat_natCast, hx]
  refine wpAny_bind (wpAny_rule (wpAny_bind (wpAny_setField ho hd (by simp) ?_)))
  show wpAny _ _ (newExc (.type "StopIteration") [] >>= _) _ _ _
  refine wpAny_bind ?_
  simp only [newExc, newTuple]
  refine wpAny_bind (wpAny_newObj_type ?_ (by size_fits))
  refine wpAny_bind (m := firstArgMember _ _) (wpAny_of_eq (a := Value.none) (by first | rfl | (simp only [firstArgMember]; rfl)) ?_)
  refine wpAny_newObj_type ?_ (by size_fits)
  simp only [raiseNew]
  refine wpAny_bind (wpAny_handled ?_)
  first | rw [show A.in1.handled = none from hh] | rw [hh]
  refine wpAny_bind (wpAny_pure (wpAny_throw ?_))
  exact hE _ _ (((Heap.SameBut.update ..).extBut.push _).push _) ⟨_, Heap.get?_push_size _ rfl, rfl⟩
theorem drawsT (hh : A.handled = none) (it t : Addr) (hne : t ≠ it) (items : Array Value) :
    Draws prog w A it [it, t] items.size (λ i v => items[i]? = some v) (λ i h => h.IsTupleIter it t i /\ h.IsTuple t items) where
  live := λ _ _ st => let ⟨o, ho, _⟩ := st.1; ⟨o, ho⟩
  frame := λ _ _ _ st hk => ⟨let ⟨o, ho, r⟩ := st.1; ⟨o, hk it (by simp) o ho, r⟩, let ⟨o, ho, r⟩ := st.2; ⟨o, hk t (by simp) o ho, r⟩⟩
  item := λ i s Q E hi st hQ => by
    refine nextOf_tup_item st.1 st.2 (x := items[i]) (by simp [hi]) λ h' hit' hs' => ?_
    exact hQ _ h' s.toks (by simp [hi]) ⟨hit', st.2.extBut hs'.extBut hne⟩ hs'
  done := λ s Q E st hE => nextOf_tup_end hh st.1 st.2 (by simp) hE
end
theorem enum_newT (l : Addr) (items : Array Value) (n : Nat) (dct : Option Addr) (sl : Array (Option Value)) :
    Meets (Builtin.«enumerate.__new__» ⟨[.type "enumerate", .ref l], []⟩) (λ _ R s => s.heap.get? l = some { cls := .type "tuple", dict := dct, data := .seq items n, slots := sl } /\
      R (.ok (.ret (.ref (s.heap.push { cls := .type "tuple_iterator", data := .fields #[.ref l, .int 0 0] }).objs.size)))
        { s with heap := (s.heap.push { cls := .type "tuple_iterator", data := .fields #[.ref l, .int 0 0] }).push { cls := .type "enumerate", data := .fields #[.none, .bool false, .ref s.heap.objs.size, rawInt 0, .none, .none] } }) :=
  .of_wp λ prog w A R s h => by
    obtain ⟨hp, g, d, tk, os⟩ := s; obtain ⟨hl, h⟩ := h
    have hsub := sub_enumerate
    have hL : Heap.IsTuple (Shared.heap ⟨hp, g, d, tk, os⟩) l items := ⟨_, hl, rfl, n, rfl⟩
    wp_walk using wpAny_loadPart' hl
    refine wpAny_stack_any λ st => wpAny_pure ?_
    split
    . rename_i c _ _ _ _ _
      cases (c == Value.type "enumerate")
      . wp_walk using wpAny_loadPart' hl, wpAny_pyIter_tuple hL
        exact ⟨_, rfl, h⟩
      . wp_walk using wpAny_loadPart' hl, wpAny_pyIter_tuple hL
        exact ⟨_, rfl, h⟩
    . wp_walk using wpAny_loadPart' hl, wpAny_pyIter_tuple hL
      exact ⟨_, rfl, h⟩
theorem call_enumT {prog : Program} {w : World} {A : Around} {E : Value -> Shared -> Prop} {s : Shared} {l : Addr} {items : Array Value} {Q : Value -> Shared -> Prop} (hL : IsTup s.heap l items)
    (h : ∀ h', IsEnum h' (s.heap.objs.size + 1) s.heap.objs.size 0 .none -> h'.IsTupleIter s.heap.objs.size l 0 -> h'.objs.size = s.heap.objs.size + 2 ->
      (∀ b o, s.heap.get? b = some o -> h'.get? b = some o) -> Q (.ref (s.heap.objs.size + 1)) { s with heap := h' }) :
    wpAny (model prog w) A (call (.type "enumerate") [.ref l]) Q E s := by
  obtain ⟨⟨c, dct, dt, sl⟩, hl, hc, n, hd⟩ := hL
  replace hc : c = .type "tuple" := hc
  replace hd : dt = .seq items n := hd
  subst hc hd
  refine callType_new F.called_enumerate (by decide) (F.typeCall_enumerate_1 _) (F.newCall_enumerate_1 _) (λ obj => F.args_object_init_2 obj _) F.entry_enumerate_new
    (enum_newT l items n dct sl) ⟨hl, ?_⟩
  have hz : (s.heap.push { cls := .type "tuple_iterator", data := .fields #[.ref l, .int 0 0] }).objs.size = s.heap.objs.size + 1 := Heap.size_push ..
  show _ /\ _
  rw [hz]
  have he : IsEnum ((s.heap.push { cls := .type "tuple_iterator", data := .fields #[.ref l, .int 0 0] }).push
      { cls := .type "enumerate", data := .fields #[.none, .bool false, .ref s.heap.objs.size, rawInt 0, .none, .none] }) (s.heap.objs.size + 1) s.heap.objs.size 0 .none := by
    have := Heap.get?_push_size (s.heap.push { cls := .type "tuple_iterator", data := .fields #[.ref l, .int 0 0] })
      (o := { cls := .type "enumerate", data := .fields #[.none, .bool false, .ref s.heap.objs.size, rawInt 0, .none, .none] }) rfl
    rw [hz] at this; exact this
  refine ⟨⟨_, he, rfl⟩, h _ he ⟨_, Heap.get?_push_of_some _ (Heap.get?_push_size _ rfl), rfl, rfl⟩ (by rw [Heap.size_push, hz]) λ b o x => Heap.get?_push_of_some _ (Heap.get?_push_of_some _ x)⟩
end HT
namespace L2
open PySem PySem.Spec PyProof.Rows
structure ETt (h : Heap) (e it l : Addr) (i : Nat) : Prop where
  e : ∃ old, IsEnum h e it i old
  r : h.IsTupleIter it l i
def ItT (K : PySem.W.Frag) (a : Addr) : It :=
  ⟨λ i H => ∃ xs x, SqT K H a xs /\ xs[i]? = some x,
   λ i H x H' => ∃ p v, H p = none /\ H' = upd H p (.tup [.int (i : Int), v]) /\ x = .ref p /\ ∀ xs, SqT K H a xs -> xs[i]? = some v,
   λ i H => ∃ xs, SqT K H a xs /\ xs.length = i⟩
theorem turn_enumT {P : Program} {w : World} {K : PySem.W.Frag} {elts : List Expr} {kk : Nat} {tpos : Pos} {e it l : Addr} (ne : e ≠ it) (nl : l ≠ it) (nle : e ≠ l) : Turn P w K (.Tuple elts kk tpos) (ItT K l) [e, it] e (λ i h => ETt h e it l i) where
  mem := by simp
  obj := λ i h st c hc => by
    obtain ⟨⟨old, he⟩, hr⟩ := st
    simp only [List.mem_cons, List.not_mem_nil, or_false] at hc
    rcases hc with rfl | rfl
    . exact ⟨_, he, λ v z => by cases (show Data.fields _ = Data.cell v from z)⟩
    . obtain ⟨o, q, _, d⟩ := hr; exact ⟨o, q, λ v z => by rw [d] at z; cases z⟩
  keep := λ i h h' st k => by
    obtain ⟨⟨old, he⟩, o, q, r⟩ := st
    exact ⟨⟨old, k e (by simp) _ he⟩, o, k it (by simp) _ q, r⟩
  item := by
    intro X hP hw hK hc i pins s σ H E I hf st hg
    subst hP hw hK
    obtain ⟨xs, x, h1, hx⟩ := hg
    obtain ⟨its, r, pl, hz⟩ := I.tuple h1
    obtain ⟨u, hu, ru⟩ := r.get hx
    obtain ⟨⟨old, he⟩, hr⟩ := st
    have hlt : i < its.toArray.size := by
      have := (List.getElem?_eq_some_iff.mp hu).1
      simpa using this
    have hd : X.A.in1.handled = none := I.ok.hd hc
    refine wpAny_pyNext_enum_itemD (HT.drawsT hd it l nl its.toArray) he ⟨hr, pl⟩ hlt ne (by simp; exact ⟨ne, nle⟩) λ x' g tk hx' ho hr' ht hsz kp => ⟨_, rfl, ?_⟩
    have ex : x' = u := by
      have hx' : its.toArray[i]? = some x' := hx'
      rw [List.getElem?_toArray, hu] at hx'
      exact (Option.some.inj hx').symm
    subst ex
    refine wpAny_letOwnedTupleGo_enum ho λ g' e' sb => ?_
    have hle : e < s.heap.objs.size := Heap.lt_size he
    have kp2 : ∀ c o, c ∉ [e, it] -> s.heap.get? c = some o -> g'.get? c = some o := λ c o nc q => by
      simp only [List.mem_cons, List.not_mem_nil, or_false, not_or] at nc
      exact sb.extBut _ _ nc.1 (kp c o nc.1 nc.2 q)
    have hT : s.heap.objs.size ≠ e := Nat.ne_of_gt hle
    have hpair : g'.get? s.heap.objs.size = some { cls := .type "tuple", data := .seq #[.int i tk, x'] } := sb.extBut _ _ hT ht
    have fresh : H s.heap.objs.size = none := I.hok.fresh (Nat.le_refl _)
    have I2 : Inv X pins σ (upd H s.heap.objs.size (.tup [.int (i : Int), x])) { s with heap := g', toks := tk + 1 } := I.turnsL (tk := tk + 1) (o := .tup [.int (i : Int), x]) kp2 hf (Nat.le_refl _)
      (show ObjOk X.prog X.w _ g' _ (.tup [.int (i : Int), x]) from ⟨by show 2 <= sizeLine; decide, [.int i tk, x'], .cons ⟨_, rfl⟩ (.cons ru .nil), ⟨_, hpair, rfl, _, rfl⟩⟩)
    refine ⟨.ref s.heap.objs.size, _, I2, rfl, ⟨s.heap.objs.size, x, fresh, rfl, rfl, λ xs' q => by rw [I.tuple_inj q h1]; exact hx⟩, ⟨⟨x', ?_⟩, ?_⟩, λ c hc => ?_⟩
    . have := e'
      rw [show ((i : Int) + 1) = ((i + 1 : Nat) : Int) by omega] at this
      exact this
    . exact hr'.1.extBut sb.extBut (Ne.symm ne)
    . have lt : c < s.heap.objs.size := by
        simp only [List.mem_cons, List.not_mem_nil, or_false] at hc
        rcases hc with rfl | rfl
        . exact hle
        . obtain ⟨o, q, _⟩ := hr; exact Heap.lt_size q
      rw [upd_ne (Nat.ne_of_lt lt)]
      exact (hf c hc).1
  done := by
    intro X hP hw hK hc i pins s σ H E I hf st hg
    subst hP hw hK
    obtain ⟨xs, h1, hend⟩ := hg
    obtain ⟨its, r, pl, hz⟩ := I.tuple h1
    have l1' := r.length
    obtain ⟨⟨old, he⟩, hr⟩ := st
    have hd : X.A.in1.handled = none := I.ok.hd hc
    have en : i = its.toArray.size := by simp; omega
    subst en
    refine wpAny_pyNext_enum_endD (HT.drawsT hd it l nl its.toArray) he ⟨hr, pl⟩ λ g x => ⟨rfl, ?_⟩
    exact I.turns (tk := s.toks) (λ c o nc q => by
      simp only [List.mem_cons, List.not_mem_nil, or_false, not_or] at nc
      exact x c o nc.2 q) hf
  self := λ _ _ _ _ _ st h => by
    obtain ⟨⟨old, he⟩, hr⟩ := st
    exact wpAny_pyIter_enum he h
def iEnumT (K : PySem.W.Frag) (ta : TA) : TI := λ σ H R => ta σ H λ vs H1 => ∃ a xs, vs = [.ref a] /\ SqT K H1 a xs /\ R (ItT K a) H1
theorem pi_enumT (K : PySem.W.Frag) {X : Cx} {a : Expr} {ta : TA} {elts : List Expr} {kk : Nat} {tpos p pos : Pos} (hg : Gl X "enumerate") (hm : X.mg "enumerate" = none) (ha : PA X [a] ta) (hK : X.K = K := by rfl) (hs : starEach [a] X.env = [(false, eval a X.env)] := by rfl) :
    PI X (.Tuple elts kk tpos) (.Call (.Name "enumerate" p) [a] [] pos) (iEnumT K ta) := by
  subst hK
  intro pins s σ H R I h
  refine Call_ (ld_blt I hg hm boot_enumerate (PyProof.Rows.callWith_type1 (thn (ha pos pins s σ H _ I h) λ us s1 ⟨vs, H1, I1, r1, q1⟩ => ?_) hs rfl))
  obtain ⟨l, xs, e, c, q⟩ := q1
  subst e
  obtain ⟨u, rfl, ru⟩ := r1.one
  cases ru
  obtain ⟨its, r, pl, hz⟩ := I1.tuple c
  have ll : l < s1.heap.objs.size := by obtain ⟨o, ho, _⟩ := pl; exact Heap.lt_size ho
  refine HT.call_enumT pl λ g he hr hsz kp => wpAny_pyIter_enum he ?_
  refine ⟨_, _, _, _, H1, rfl, I1.kept (t' := s1.toks) kp, turn_enumT (Nat.ne_of_gt (Nat.lt_succ_self _)) (Nat.ne_of_lt ll) (Nat.ne_of_gt (Nat.lt_succ_of_lt ll)), ⟨⟨_, he⟩, hr⟩, λ c hc => ?_, q⟩
  simp only [List.mem_cons, List.not_mem_nil, or_false] at hc
  have le : s1.heap.objs.size <= c := by
    rcases hc with rfl | rfl
    . exact Nat.le_add_right _ _
    . exact Nat.le_refl _
  exact I1.fpOk le (I1.hok.fresh le)
theorem ri_enumT {K : PySem.W.Frag} {ta : TE} {ma : MI} (ha : RRw K true ta ma) : RIt K (iEnumT K (tCons ta tNil)) (mEnum ma) := by
  intro ρ σ H hd ls Q d g hd' hR hL hm hQ
  obtain ⟨⟨⟨d1, g1⟩, h1⟩, e1, e2⟩ := Option.map_eq_some_iff.mp hm
  cases e2
  refine ha ρ σ H hd ls _ d1 g1 h1 hR hL e1 λ ρ1 H1 a x1 R1 G1 S1 => ?_
  obtain ⟨xs, c1, r1⟩ := S1 ρ1 H1 _ .refl R1 G1
  refine ⟨a, xs, rfl, c1, hQ ρ1 H1 _ x1 R1 G1 ?_⟩
  intro ρ3 H3 hd3 x3 R3 G3 i
  obtain ⟨xs, c1, r1⟩ := S1 ρ3 H3 _ x3 R3 G3
  have l1 := r1.len
  refine ⟨λ hi => ?_, λ hi => ⟨xs, c1, ?_⟩⟩
  . have hi : i < d1.length := by simpa using hi
    have i1 : d1[i]? = some (d1[i]'hi) := List.getElem?_eq_getElem _
    obtain ⟨x, x4, x5⟩ := r1.get i1
    refine ⟨⟨xs, x, c1, x4⟩, λ z H4 hz => ?_⟩
    obtain ⟨p, v, fp, rfl, rfl, hv⟩ := hz
    have ev := hv xs c1; rw [x4] at ev; cases ev
    obtain ⟨R4, x6⟩ := R3.hid (ho := .tup [.int (i : Int), x]) fp
    refine ⟨ρ3, mkTup [.im (.int (i : Int)), d1[i]'hi], x6, rfl, R4, ?_, rd_mkTup (SqT.of upd_same) (.cons (by simp [RD, RI]) (.cons (x5.ext R3 x6) .nil))⟩
    simp [i1]
  . have hi : i = d1.length := by simpa using hi
    omega
theorem qi_enumT (K : PySem.W.Frag) {X : Cx} {a : Expr} {ta : TE} {ma : MI} {elts : List Expr} {kk : Nat} {tpos p pos : Pos} (hm : X.mg "enumerate" = none) (ha : QR K true X a ta ma) (hg : Gl X "enumerate" := by rfl) (hK : X.K = K := by rfl) (hs : starEach [a] X.env = [(false, eval a X.env)] := by rfl) :
    QI K X (.Tuple elts kk tpos) (.Call (.Name "enumerate" p) [a] [] pos) (iEnumT K (tCons ta tNil)) (mEnum ma) := ⟨pi_enumT K hg hm (pa_cons ha.p pa_nil hs) hK hs, ri_enumT ha.r⟩
end L2
namespace HS
open PySem PyProof.Rows
open PySem.AutoSeq1 (wpAny_loadPart')
open Sem (wp)
abbrev st (t : Tok) : List (Str × Value) := [(Str.ofString "start", .int 1 t)]
section
variable {prog : Program} {w : World} {A : Around} {E : Value -> Shared -> Prop} {s : Shared}
theorem shift {it : Addr} {fp : List Addr} {n : Nat} {P : Nat -> Value -> Prop} {St : Nat -> Heap -> Prop} (D : Draws prog w A it fp n P St) : Draws prog w A it fp (n + 1) (λ j v => P (j - 1) v) (λ j h => 1 <= j /\ St (j - 1) h) where
  live := λ _ _ z => D.live _ _ z.2
  frame := λ _ _ _ z hk => ⟨z.1, D.frame _ _ _ z.2 hk⟩
  item := λ i s Q E hi z hQ => D.item (i - 1) s Q E (by omega) z.2 λ x h' tk p q b => hQ x h' tk p ⟨by omega, by rw [show i + 1 - 1 = i - 1 + 1 by have := z.1; omega]; exact q⟩ b
  done := λ s Q E z hE => D.done s Q E z.2 hE
end
end HS
namespace L2
open PySem PySem.Spec PyProof.Rows
section
variable {K : PySem.W.Frag}
end
end L2
namespace HR
open PySem PyProof.Rows
open Sem (wp)
section
variable {prog : Program} {w : World} {A : Around} {E : Value -> Shared -> Prop} {s : Shared}
theorem alive {M : Model} {a : Addr} {Q : Option Obj -> Shared -> Prop} (h : Q (s.heap.get? a) s) : wpAny M A (loadIfAlive a) Q E s := λ Γ p _ => by
  unfold loadIfAlive
  rw [Sem.wp_loadIfAlive]
  exact (Sem.wp_pure ..).mpr h
abbrev EnO (h : Heap) (e it : Addr) (i : Int) (a : Addr) (b : Bool) (x : Value) : Prop := h.get? e = some { cls := .type "enumerate", dict := none, data := .fields #[rawInt a, .bool b, .ref it, rawInt i, .none, x], slots := #[] }
def EnH (h : Heap) (e it : Addr) (i : Int) : Prop := ∃ a b x o, EnO h e it i a b x /\ h.get? a = some o /\ a ≠ e /\ a ≠ it
theorem held_next {e it l : Addr} {i : Nat} {items : Array Value} {x : Value} {Q : Value -> Shared -> Prop} (he : EnH s.heap e it i) (hit : s.heap.IsListIter it l i) (hl : s.heap.IsList l items) (hx : items[i]? = some x) (hne : e ≠ it)
    (hQ : ∀ h', EnH h' e it ((i : Int) + 1) -> h'.IsListIter it l (i + 1) -> h'.get? s.heap.objs.size = some { cls := .type "tuple", data := .seq #[.int i s.toks, x] } ->
      (∀ b o, b ≠ e -> b ≠ it -> s.heap.get? b = some o -> h'.get? b = some o) -> Q (.ref s.heap.objs.size) { s with heap := h', toks := s.toks + 1 }) :
    wpAny (model prog w) A (Builtin.«enumerate.__next__» ⟨[.ref e], []⟩) (λ fin s' => ∃ v, fin = .done (.ret v) /\ Q v s') E s := by
  obtain ⟨hp, g, d, tk, os⟩ := s
  obtain ⟨a, bb, y, oa, he, hoa, nae, nai⟩ := he
  show wpAny _ _ (field (.ref e) 2 >>= _) _ _ _
  refine wpAny_bind (wpAny_field he rfl (x := .ref it) rfl ?_)
  refine wpAny_bind (wpAny_nextOf_list_item hit hl hx λ h1 hit1 hs1 => ?_)
  replace hs1 : Heap.SameBut it hp h1 := hs1
  have he1 : EnO h1 e it i a bb y := (hs1.2 e hne).trans he
  show wpAny _ _ (field (.ref e) 3 >>= _) _ _ ⟨h1, g, d, tk, os⟩
  refine wpAny_bind (wpAny_field he1 rfl (x := rawInt i) rfl ?_)
  show wpAny _ _ (field (.ref e) 4 >>= _) _ _ ⟨h1, g, d, tk, os⟩
  refine wpAny_bind (wpAny_field he1 rfl (x := .none) rfl ?_)
  show wpAny _ _ (mkInt i >>= _) _ _ ⟨h1, g, d, tk, os⟩
  refine wpAny_bind (wpAny_mkInt ?_)
  show wpAny _ _ (setField (.ref e) 3 (rawInt ((i : Int) + 1)) >>= _) _ _ ⟨h1, g, d, tk + 1, os⟩
  refine wpAny_bind (wpAny_setField_rec he1 (by simp) λ h2 he2 hs2 => ?_)
  replace hs2 : Heap.SameBut e h1 h2 := hs2
  replace he2 : EnO h2 e it ((i : Int) + 1) a bb y := he2
  show wpAny _ _ (setField (.ref e) 4 .none >>= _) _ _ ⟨h2, g, d, tk + 1, os⟩
  refine wpAny_bind (wpAny_setField_rec he2 (by simp) λ h3 he3 hs3 => ?_)
  replace hs3 : Heap.SameBut e h2 h3 := hs3
  replace he3 : EnO h3 e it ((i : Int) + 1) a bb y := he3
  show wpAny _ _ (newTuple [.int i tk, x] >>= _) _ _ ⟨h3, g, d, tk + 1, os⟩
  refine wpAny_bind (wpAny_newTuple ?_)
  have he4 : EnO (h3.push { cls := .type "tuple", data := .seq #[.int i tk, x] }) e it ((i : Int) + 1) a bb y := Heap.get?_push_of_some _ he3
  have hsz : h3.objs.size = hp.objs.size := by rw [hs3.1, hs2.1, hs1.1]
  have hel : e < hp.objs.size := Heap.lt_size he
  have kp : ∀ b o, b ≠ e -> b ≠ it -> hp.get? b = some o -> (h3.push { cls := .type "tuple", data := .seq #[.int i tk, x] }).get? b = some o := λ b o q1 q2 hb => Heap.get?_push_of_some _ (hs3.extBut b o q1 (hs2.extBut b o q1 (hs1.extBut b o q2 hb)))
  have ht : (h3.push { cls := .type "tuple", data := .seq #[.int i tk, x] }).get? hp.objs.size = some { cls := .type "tuple", data := .seq #[.int i tk, x] } := by rw [<- hsz]; exact Heap.get?_push_size _ rfl
  have hit4 : (h3.push { cls := .type "tuple", data := .seq #[.int i tk, x] }).IsListIter it l (i + 1) := by
    obtain ⟨o, ho, r⟩ := (hit1.extBut hs2.extBut (Ne.symm hne)).extBut hs3.extBut (Ne.symm hne)
    exact ⟨o, Heap.get?_push_of_some _ ho, r⟩
  generalize h3.push { cls := .type "tuple", data := .seq #[.int i tk, x] } = h4 at *
  have ha4 := kp a oa nae nai hoa
  show wpAny _ _ (Builtin.SmallTypes.ownedTupleIsFree (.ref e) >>= _) _ _ ⟨h4, g, d, tk + 1, os⟩
  rw [hsz]
  refine wpAny_bind ?_
  unfold Builtin.SmallTypes.ownedTupleIsFree
  refine wpAny_bind (wpAny_field he4 rfl (x := rawInt a) rfl ?_)
  show wpAny _ _ (loadIfAlive ((a : Int)).toNat >>= _) _ _ _
  rw [Int.toNat_natCast]
  refine wpAny_bind (alive ?_)
  rw [show (Shared.mk h4 g d (tk + 1) os).heap.get? a = some oa from ha4]
  show wpAny _ _ (field (.ref e) 1 >>= _) _ _ _
  refine wpAny_bind (wpAny_field he4 rfl (x := .bool bb) rfl ?_)
  have fin : ∀ h5, EnO h5 e it ((i : Int) + 1) a true y -> Heap.SameBut e h4 h5 -> Q (.ref hp.objs.size) ⟨h5, g, d, tk + 1, os⟩ := λ h5 he5 hs5 =>
    hQ h5 ⟨a, true, y, oa, he5, hs5.extBut _ _ nae ha4, nae, nai⟩ (hit4.extBut hs5.extBut (Ne.symm hne)) (hs5.extBut _ _ (Nat.ne_of_gt hel) ht) λ b o q1 q2 hb => hs5.extBut b o q1 (kp b o q1 q2 hb)
  cases bb with
  | true =>
    exact wpAny_pure (wpAny_pure ⟨_, rfl, fin h4 he4 ⟨rfl, λ _ _ => rfl⟩⟩)
  | false =>
    show wpAny _ _ (setField (.ref e) 1 (.bool true) >>= _) _ _ _
    refine wpAny_bind (wpAny_setField_rec he4 (by simp) λ h5 he5 hs5 => ?_)
    exact wpAny_pure (wpAny_pure ⟨_, rfl, fin h5 he5 hs5⟩)
theorem next_held {e it l : Addr} {i : Nat} {items : Array Value} {x : Value} {Q : Option Value -> Shared -> Prop} (he : EnH s.heap e it i) (hit : s.heap.IsListIter it l i) (hl : s.heap.IsList l items) (hx : items[i]? = some x) (hne : e ≠ it)
    (hQ : ∀ h', EnH h' e it ((i : Int) + 1) -> h'.IsListIter it l (i + 1) -> h'.get? s.heap.objs.size = some { cls := .type "tuple", data := .seq #[.int i s.toks, x] } ->
      (∀ b o, b ≠ e -> b ≠ it -> s.heap.get? b = some o -> h'.get? b = some o) -> Q (some (.ref s.heap.objs.size)) { s with heap := h', toks := s.toks + 1 }) : wpAny (model prog w) A (pyNext (.ref e)) Q E s := by
  have hT : s.TypeIs (.ref e) "enumerate" := let ⟨_, _, _, _, z, _⟩ := he; ⟨_, z, rfl⟩
  unfold pyNext
  exact wpAny_bind (wpAny_attempt (wpAny_callSpecial?_slot (name := Str.ofString "__next__") hT F.slot_enumerate_next (wpAny_call_entry F.slot_enumerate_next hT F.entry_enumerate_next
      (held_next he hit hl hx hne λ h' a b c d => wpAny_pure (hQ h' a b c d)) (F.args_enumerate_next_1 _))))
theorem next_end {e it l : Addr} {i : Nat} {items : Array Value} {Q : Option Value -> Shared -> Prop} (hh : A.handled = none) (he : EnH s.heap e it i) (hit : s.heap.IsListIter it l i) (hl : s.heap.IsList l items) (hx : items[i]? = none)
    (hQ : ∀ h', Heap.ExtBut it s.heap h' -> Q none { s with heap := h' }) : wpAny (model prog w) A (pyNext (.ref e)) Q E s := by
  obtain ⟨a, bb, y, oa, he, _⟩ := he
  have hT : s.TypeIs (.ref e) "enumerate" := ⟨_, he, rfl⟩
  unfold pyNext
  refine wpAny_bind (wpAny_attempt (wpAny_callSpecial?_slot (name := Str.ofString "__next__") hT F.slot_enumerate_next (wpAny_call_entry F.slot_enumerate_next hT F.entry_enumerate_next ?_ (F.args_enumerate_next_1 _))))
  show wpAny _ _ (field (.ref e) 2 >>= _) _ _ _
  refine wpAny_bind (wpAny_field he rfl (x := .ref it) rfl ?_)
  refine wpAny_bind (wpAny_nextOf_list_end hh hit hl hx λ h' x he' hx' => ?_)
  obtain ⟨o, ho, hc⟩ := hx'
  exact wpAny_bind (wpAny_isInstance (T := "StopIteration") (b := true) ⟨o, ho, hc⟩ isSubtype_stop (wpAny_pure (hQ _ he')))
def Est (h : Heap) (e it l : Addr) (i : Nat) : Prop := ((i = 0 /\ ∃ old, IsEnum h e it 0 old) ∨ EnH h e it i) /\ h.IsListIter it l i
theorem est_next {e it l : Addr} {i : Nat} {items : Array Value} {x : Value} {Q : Option Value -> Shared -> Prop} (he : Est s.heap e it l i) (hl : s.heap.IsList l items) (hx : items[i]? = some x) (hne : e ≠ it)
    (hQ : ∀ h', Est h' e it l (i + 1) -> h'.get? s.heap.objs.size = some { cls := .type "tuple", data := .seq #[.int i s.toks, x] } ->
      (∀ b o, b ≠ e -> b ≠ it -> s.heap.get? b = some o -> h'.get? b = some o) -> Q (some (.ref s.heap.objs.size)) { s with heap := h', toks := s.toks + 1 }) : wpAny (model prog w) A (pyNext (.ref e)) Q E s := by
  obtain ⟨he, hit⟩ := he
  rcases he with ⟨rfl, old, he⟩ | he
  . refine wpAny_pyNext_enum_item he hit hl hx hne λ h' ho hr ht _ kp => hQ h' ⟨.inr ⟨_, false, _, _, ho, ht, ?_, ?_⟩, hr⟩ ht kp
    . exact Nat.ne_of_gt (Heap.lt_size he)
    . obtain ⟨o, ho, _⟩ := hit; exact Nat.ne_of_gt (Heap.lt_size ho)
  . exact next_held he hit hl hx hne λ h' a b c d => hQ h' ⟨.inr a, b⟩ c d
theorem est_end {e it l : Addr} {i : Nat} {items : Array Value} {Q : Option Value -> Shared -> Prop} (hh : A.handled = none) (he : Est s.heap e it l i) (hl : s.heap.IsList l items) (hx : items[i]? = none)
    (hQ : ∀ h', Heap.ExtBut it s.heap h' -> Q none { s with heap := h' }) : wpAny (model prog w) A (pyNext (.ref e)) Q E s := by
  obtain ⟨he, hit⟩ := he
  rcases he with ⟨rfl, old, he⟩ | he
  . exact wpAny_pyNext_enum_end hh he hit hl hx hQ
  . exact next_end hh he hit hl hx hQ
def Tps (h : Heap) (items acc : Array Value) (S e it : Addr) (b0 : Nat) : Prop := ∀ j, j < acc.size -> ∃ a t x, acc[j]? = some (.ref a) /\ items[j]? = some x /\ h.get? a = some { cls := .type "tuple", data := .seq #[.int j t, x] } /\ b0 <= a /\ a ≠ S /\ a ≠ e /\ a ≠ it
theorem Tps.keep {h h' : Heap} {items acc : Array Value} {S e it : Addr} {b0 : Nat} (t : Tps h items acc S e it b0) (k : ∀ b o, b ≠ S -> b ≠ e -> b ≠ it -> h.get? b = some o -> h'.get? b = some o) : Tps h' items acc S e it b0 := λ j hj => by
  obtain ⟨a, t, x, q1, q2, q3, q0, q4, q5, q6⟩ := t j hj
  exact ⟨a, t, x, q1, q2, k _ _ q4 q5 q6 q3, q0, q4, q5, q6⟩
end
section
variable {prog : Program} {w : World} {A : Around} {R : Result -> Shared -> Prop}
theorem loopE {S e it l b0 : Addr} {items : Array Value} {res : Value} (hh : A.in1.handled = none) (hn : items.size <= sizeLine) (nSe : S ≠ e) (nSi : S ≠ it) (nSl : S ≠ l) (nei : e ≠ it) (nle : l ≠ e) (nli : l ≠ it) (s0 : Shared) :
    ∀ (k i : Nat) (h : Heap) (tk : Nat) (acc : Array Value) (c : Nat), items.size - i = k -> acc.size = i -> i <= items.size -> b0 <= h.objs.size -> Est h e it l i -> h.IsList l items -> h.get? S = some { cls := .type "list", dict := none, data := .seq acc c, slots := #[] } -> Tps h items acc S e it b0 ->
    (∀ h' tk' acc' c', (∀ b o, b ≠ S -> b ≠ e -> b ≠ it -> h.get? b = some o -> h'.get? b = some o) -> h'.get? S = some { cls := .type "list", dict := none, data := .seq acc' c', slots := #[] } -> acc'.size = items.size -> Tps h' items acc' S e it b0 -> R (.ok (.ret res)) { s0 with heap := h', toks := tk' }) ->
    codeAny (model prog w) A (.builtin "list.extend.loop" ⟨[.ref S, .ref e, res], []⟩) R { s0 with heap := h, toks := tk } := by
  intro k
  induction k with
  | zero =>
    intro i h tk acc c hk ha hi hb he hl hS ht hR
    have hin : i = items.size := by omega
    refine codeAny_builtin F.entry_extend_loop ?_
    rw [Around.under_plainId F.plain_extend_loop _]
    show wpAny _ A.in1 (pyNext (.ref e) >>= _) _ _ _
    refine wpAny_bind (est_end hh he hl (by simp [hin]) λ h' ex => ?_)
    exact wpAny_pure (hR h' tk acc c (λ b o _ _ q z => ex b o q z) (ex S _ nSi hS) (by omega) (ht.keep λ b o _ _ q z => ex b o q z))
  | succ k ih =>
    intro i h tk acc c hk ha hi hb he hl hS ht hR
    have hlt : i < items.size := by omega
    refine codeAny_builtin F.entry_extend_loop ?_
    rw [Around.under_plainId F.plain_extend_loop _]
    show wpAny _ A.in1 (pyNext (.ref e) >>= _) _ _ _
    refine wpAny_bind (est_next he hl (x := items[i]) (by simp [hlt]) nei λ h' he' htp kp => ?_)
    have hS' := kp S _ nSe nSi hS
    have lS : S < h.objs.size := Heap.lt_size hS
    have oth : ∀ b o, b ≠ S -> h'.get? b = some o -> (h'.update S (Obj.mapSeq (·.push (.ref h.objs.size)))).get? b = some o := λ b o q z => (Heap.get?_update_other _ _ (Ne.symm q)).trans z
    show wpAny _ A.in1 (updateSeq S (·.push (.ref h.objs.size)) >>= _) _ _ _
    refine wpAny_bind ?_
    refine wpAny_updateSeq hS' rfl (wpAny_pure ⟨plainId_quiet F.plain_extend_loop _, ?_⟩) (by rw [ha]; omega) (by show (acc.push _).size <= sizeLine + 1; rw [Array.size_push, ha]; omega)
    refine ih (i + 1) _ (tk + 1) (acc.push (.ref h.objs.size)) _ (by omega) (by simp [ha]) hlt ?_ ?_ ?_ (Heap.get?_update_self _ hS' rfl) ?_ λ h2 tk2 acc2 c2 kp2 hS2 hz2 ht2 => ?_
    . rw [Heap.size_update]; exact Nat.le_trans hb (Nat.le_trans (Nat.le_of_lt (Heap.lt_size htp)) (Nat.le_refl _))
    . obtain ⟨q, o, ho, r⟩ := he'
      refine ⟨?_, o, oth it o (Ne.symm nSi) ho, r⟩
      rcases q with ⟨z, _⟩ | ⟨a, bb, y, oa, q1, q2, q3, q4⟩
      . omega
      . by_cases z : a = S
        . subst z; exact .inr ⟨a, bb, y, _, oth e _ (Ne.symm nSe) q1, Heap.get?_update_self _ hS' rfl, q3, q4⟩
        . exact .inr ⟨a, bb, y, oa, oth e _ (Ne.symm nSe) q1, oth a _ z q2, q3, q4⟩
    . obtain ⟨o, ho, r⟩ := hl
      exact ⟨o, oth l o (Ne.symm nSl) (kp l o nle nli ho), r⟩
    . intro j hj
      have hj : j < i + 1 := by simpa [ha] using hj
      by_cases z : j = i
      . subst z
        exact ⟨h.objs.size, tk, items[j], by simp [<- ha], by simp [hlt], oth _ _ (Nat.ne_of_gt lS) htp, hb, Nat.ne_of_gt lS, Nat.ne_of_gt (by rcases he.1 with ⟨_, _, q⟩ | ⟨_, _, _, _, q, _⟩ <;> exact Heap.lt_size q), Nat.ne_of_gt (by obtain ⟨o, ho, _⟩ := he.2; exact Heap.lt_size ho)⟩
      . obtain ⟨a, t, x, q1, q2, q3, q0, q4, q5, q6⟩ := ht j (by omega)
        exact ⟨a, t, x, by rw [Array.getElem?_push]; rw [if_neg (by omega)]; exact q1, q2, oth a _ q4 (kp a _ q5 q6 q3), q0, q4, q5, q6⟩
    . exact hR h2 tk2 acc2 c2 (λ b o p1 p2 p3 z => kp2 b o p1 p2 p3 (oth b o p1 (kp b o p2 p3 z))) hS2 hz2 ht2
end
theorem en_no_len : typeLookup (.type "enumerate") "__len__" = pure none := by rw [typeLookup_type, builtinLookup_eq_fast]; kernel_rfl
theorem en_no_hint : typeLookup (.type "enumerate") "__length_hint__" = pure none := by rw [typeLookup_type, builtinLookup_eq_fast]; kernel_rfl
section
variable {prog : Program} {w : World} {A : Around} {R : Result -> Shared -> Prop} {s : Shared}
theorem extE {S e it l b0 : Addr} {items : Array Value} {res old : Value} {c0 : Nat} (hh : A.in1.handled = none) (hn : items.size <= sizeLine) (nSe : S ≠ e) (nSi : S ≠ it) (nSl : S ≠ l) (nei : e ≠ it) (nle : l ≠ e) (nli : l ≠ it) (hb : b0 <= s.heap.objs.size) (he : IsEnum s.heap e it 0 old) (hit : s.heap.IsListIter it l 0) (hl : s.heap.IsList l items)
    (hS : s.heap.get? S = some { cls := .type "list", data := .seq #[] c0 })
    (hR : ∀ h' tk' acc' c', (∀ b o, b ≠ S -> b ≠ e -> b ≠ it -> s.heap.get? b = some o -> h'.get? b = some o) -> h'.get? S = some { cls := .type "list", dict := none, data := .seq acc' c', slots := #[] } -> acc'.size = items.size -> Tps h' items acc' S e it b0 -> R (.ok (.ret res)) { s with heap := h', toks := tk' }) :
    wpAny (model prog w) A.in1 (Builtin.List.listExtendWith (.ref S) (.ref e) res) (λ fin s' => match fin with | .done f => R (.ok f) s' | .again c' => c'.quiet = true /\ codeAny (model prog w) A c' R s') (λ e s' => R (.error e) s') s := by
  have hT : s.TypeIs (.ref e) "enumerate" := ⟨_, he, rfl⟩
  unfold Builtin.List.listExtendWith
  refine wpAny_bind (wpAny_typeOf hT ?_)
  have h1 : Builtin.List.listSameRef (.ref S) (.ref e) = false := by simp [Builtin.List.listSameRef, nSe]
  have h2 : (Value.type "enumerate" == Value.type "list") = false := by decide
  have h3 : (Value.type "enumerate" == Value.type "tuple") = false := by decide
  simp only [h1, h2, h3, Bool.or_false, Bool.false_eq_true, if_false]
  refine wpAny_bind (wpAny_pyIter_enum he ?_)
  refine wpAny_bind (wpAny_holding ?_)
  unfold Builtin.List.listLengthHint
  refine wpAny_bind (wpAny_specialOf hT en_no_len ?_)
  show wpAny _ A.in1 (specialOf (Value.ref e) (Str.ofString "__length_hint__") >>= _) _ _ _
  refine wpAny_bind (wpAny_specialOf hT en_no_hint ?_)
  refine wpAny_pure ?_
  show wpAny _ A.in1 (rule "list.extend.makes-room" >>= λ _ => Builtin.List.listTouch (.ref S) >>= λ _ => again (.builtin "list.extend.loop" ⟨[.ref S, .ref e, res], []⟩)) _ _ _
  refine wpAny_bind (wpAny_rule (wpAny_bind ?_))
  show wpAny _ A.in1 (updateSeq S (·.push .none) >>= λ _ => updateSeq S (·.pop)) _ _ _
  refine wpAny_bind (wpAny_updateSeq hS rfl ?_)
  have hS2 := Heap.get?_update_self (Obj.mapSeq (·.push Value.none)) hS rfl
  refine wpAny_updateSeq (hz := by seq_fits) hS2 rfl ?_
  have hS3 := Heap.get?_update_self (Obj.mapSeq (·.pop)) hS2 rfl
  have oth : ∀ b o, b ≠ S -> s.heap.get? b = some o -> ((s.heap.update S (Obj.mapSeq (·.push Value.none))).update S (Obj.mapSeq (·.pop))).get? b = some o := λ b o hb z => (Heap.get?_update_other _ _ (Ne.symm hb)).trans ((Heap.get?_update_other _ _ (Ne.symm hb)).trans z)
  refine wpAny_pure ⟨plainId_quiet F.plain_extend_loop _, loopE hh hn nSe nSi nSl nei nle nli s items.size 0 _ s.toks _ _ rfl rfl (Nat.zero_le _) (by rw [Heap.size_update, Heap.size_update]; exact hb) ⟨.inl ⟨rfl, old, oth e _ (Ne.symm nSe) he⟩, ?_⟩ ?_ hS3 (λ j hj => absurd hj (Nat.not_lt_zero _)) λ h' tk' acc' c' kp q1 q2 q3 => hR h' tk' acc' c' (λ b o p1 p2 p3 z => kp b o p1 p2 p3 (oth b o p1 z)) q1 q2 q3⟩
  . obtain ⟨o, ho, r⟩ := hit; exact ⟨o, oth it o (Ne.symm nSi) ho, r⟩
  . obtain ⟨o, ho, r⟩ := hl; exact ⟨o, oth l o (Ne.symm nSl) ho, r⟩
end
section
variable {prog : Program} {w : World} {A : Around} {E : Value -> Shared -> Prop} {s : Shared}
theorem call_listE {e it l : Addr} {items : Array Value} {old : Value} {Q : Value -> Shared -> Prop} (hh : A.handled = none) (hn : items.size <= sizeLine) (nei : e ≠ it) (nle : l ≠ e) (nli : l ≠ it) (he : IsEnum s.heap e it 0 old) (hit : s.heap.IsListIter it l 0) (hl : s.heap.IsList l items)
    (hQ : ∀ h' tk' acc' c', (∀ b o, b ≠ e -> b ≠ it -> s.heap.get? b = some o -> h'.get? b = some o) -> h'.get? s.heap.objs.size = some { cls := .type "list", dict := none, data := .seq acc' c', slots := #[] } -> acc'.size = items.size -> Tps h' items acc' s.heap.objs.size e it (s.heap.objs.size + 1) -> Q (.ref s.heap.objs.size) { s with heap := h', toks := tk' }) :
    wpAny (model prog w) A (call (.type "list") [.ref e]) Q E s := by
  have le : e < s.heap.objs.size := Heap.lt_size he
  have li : it < s.heap.objs.size := let ⟨o, ho, _⟩ := hit; Heap.lt_size ho
  have ll : l < s.heap.objs.size := let ⟨o, ho, _⟩ := hl; Heap.lt_size ho
  refine callType_codes (Q₁ := λ obj s₁ => obj = .ref s.heap.objs.size /\ s₁ = { s with heap := s.heap.push { cls := .type "list", data := .seq #[] } }) F.called_list (F.typeCall_list_1 _) F.entry_list_init (code_list_new _ ⟨rfl, rfl⟩) λ obj s₁ h₁ => ?_
  obtain ⟨rfl, rfl⟩ := h₁
  have hS : (s.heap.push { cls := .type "list", data := .seq #[] }).get? s.heap.objs.size = some { cls := .type "list", data := .seq #[] } := Heap.get?_push_size _ rfl
  refine ⟨⟨_, hS, rfl⟩, F.args_list_init_2 _ _, ?_⟩
  show wpAny _ A.in1.in1 (do let old <- Builtin.List.listItems (.ref s.heap.objs.size); Builtin.List.listUpdate (.ref s.heap.objs.size) (λ _ => #[]); letGo old.toList.reverse; Builtin.List.listExtendWith (.ref s.heap.objs.size) (.ref e) .none) _ _ _
  refine wpAny_bind ?_
  unfold Builtin.List.listItems
  refine wpAny_bind (wpAny_seqItems hS rfl (wpAny_pure ?_))
  show wpAny _ A.in1.in1 (updateSeq s.heap.objs.size (λ _ => #[]) >>= λ _ => letGo (#[] : Array Value).toList.reverse >>= λ _ => Builtin.List.listExtendWith (.ref s.heap.objs.size) (.ref e) .none) _ _ _
  refine wpAny_bind (wpAny_updateSeq hS rfl ?_)
  have hS2 := Heap.get?_update_self (Obj.mapSeq (λ _ => (#[] : Array Value))) hS rfl
  have oth : ∀ b o, s.heap.get? b = some o -> ((s.heap.push { cls := .type "list", data := .seq #[] }).update s.heap.objs.size (Obj.mapSeq (λ _ => (#[] : Array Value)))).get? b = some o := λ b o z => (Heap.get?_update_other _ _ (Nat.ne_of_gt (Heap.lt_size z))).trans (Heap.get?_push_of_some _ z)
  refine wpAny_bind (wpAny_letGo ?_)
  refine extE (b0 := s.heap.objs.size + 1) (A := A.in1) hh hn (Nat.ne_of_gt le) (Nat.ne_of_gt li) (Nat.ne_of_gt ll) nei nle nli (by rw [Heap.size_update, Heap.size_push]; exact Nat.le_refl _) (oth e _ he) ?_ ?_ hS2 λ h' tk' acc' c' kp q1 q2 q3 => ?_
  . obtain ⟨o, ho, r⟩ := hit; exact ⟨o, oth it o ho, r⟩
  . obtain ⟨o, ho, r⟩ := hl; exact ⟨o, oth l o ho, r⟩
  . exact ⟨rfl, hQ h' tk' acc' c' (λ b o p1 p2 z => kp b o (Nat.ne_of_lt (Heap.lt_size z)) p1 p2 (oth b o z)) q1 q2 q3⟩
end
end HR
namespace L2
open PySem PySem.Spec PyProof.Rows
theorem Inv.adopt2 {X : Cx} {pins : List (Addr × Obj)} {σ : List (Option V)} {H : Hp} {s : Shared} {a : Addr} {o : HO} (I : Inv X pins σ H s) (f : FpOk X pins H a) (new : ObjOk X.prog X.w (upd H a o) s.heap a o) : Inv X pins σ (upd H a o) s := by
  have fr : H a = none := f.1
  have ne : ∀ b u, H b = some u -> upd H a o b = some u := λ b u e => by rw [upd_ne (ne_of_none e fr)]; exact e
  exact I.step (g' := s.gens) (d' := s.drawn) (t' := s.toks) (ch := [a]) (λ b hb => by rw [List.mem_singleton] at hb; subst hb; exact ⟨f.2.2.2.1, f.2.1, f.2.2.2.2.1, f.2.2.2.2.2⟩) (λ b o _ _ hc e _ => e) (λ b o _ _ hc e _ => ⟨o.slots, e⟩)
    (λ b _ hc e n => by rw [upd_ne (λ z => hc (by rw [z]; exact List.mem_singleton.mpr rfl))]; exact n) (λ b o hc e => ⟨o, e⟩) (λ b xs e => ne b _ e) (λ b o u e => ne b _ e) (λ b ps e => ⟨#[], by rw [ne b _ e]; simp⟩) (λ m hm => hm) (λ b u e => by
      by_cases hb : b = a
      . subst hb; rw [upd_same] at e; cases e; exact new
      . rw [upd_ne hb] at e
        exact (I.hok b u e).stay (λ c v hc q => q) (λ c q => ne c _ q) λ c xs q => ne c _ q) I.bare
def Adds : Nat -> List V -> Hp -> List Addr -> Hp -> Prop
  | _, [], H, as, H' => as = [] /\ H' = H
  | j, x :: xs, H, as, H' => ∃ p r, as = p :: r /\ H p = none /\ Adds (j + 1) xs (upd H p (.tup [.int (j : Int), x])) r H'
theorem adopt_all {X : Cx} {pins : List (Addr × Obj)} {σ : List (Option V)} {s : Shared} : ∀ (xs : List V) (its : List Value) (as : List Addr) (j : Nat) (H : Hp), Inv X pins σ H s -> Vals xs its -> as.length = xs.length ->
    (∀ (k : Nat) a, as[k]? = some a -> FpOk X pins H a /\ ∃ t u, its[k]? = some u /\ s.heap.get? a = some { cls := .type "tuple", data := .seq #[.int ((j + k : Nat) : Int) t, u] }) -> ∃ H', Adds j xs H as H' /\ Inv X pins σ H' s /\ ∀ b, b ∉ as -> H' b = H b
  | [], _, as, j, H, I, _, hl, _ => by
    have : as = [] := List.length_eq_zero_iff.mp hl
    exact ⟨H, ⟨this, rfl⟩, I, λ _ _ => rfl⟩
  | x :: xs, its, as, j, H, I, r, hl, h => by
    cases r with
    | @cons _ u _ its ru r =>
    cases as with
    | nil => cases hl
    | cons a as =>
      obtain ⟨f, t, u', eu, ht⟩ := h 0 a rfl
      cases (Option.some.inj (show some u = some u' from eu))
      have I1 := I.adopt2 f (o := .tup [.int (j : Int), x]) ⟨by show 2 <= sizeLine; decide, [.int (j : Int) t, u], .cons ⟨_, rfl⟩ (.cons ru .nil), ⟨_, ht, rfl, _, rfl⟩⟩
      obtain ⟨H', q1, q2, q3⟩ := adopt_all xs its as (j + 1) _ I1 r (by simpa using hl) λ k b hb => by
        obtain ⟨g, t', w, ew, hw⟩ := h (k + 1) b (by simpa using hb)
        have nb : b ≠ a := λ z => by
          subst z
          rw [ht] at hw
          simp at hw
          omega
        exact ⟨⟨by rw [upd_ne nb]; exact g.1, g.2⟩, t', w, by simpa using ew, by rw [show j + 1 + k = j + (k + 1) by omega]; exact hw⟩
      refine ⟨H', ⟨a, as, rfl, f.1, q1⟩, q2, λ b hb => ?_⟩
      rw [q3 b (λ z => hb (List.mem_cons_of_mem _ z)), upd_ne (λ z => hb (by rw [z]; exact List.mem_cons_self))]
def ItV (as : List Addr) : It := ⟨λ i _ => i < as.length, λ i H x H' => H' = H /\ ∃ a, as[as.length - 1 - i]? = some a /\ x = .ref a, λ i _ => i = as.length⟩
theorem turn_rev {P : Program} {w : World} {K : PySem.W.Frag} {elts : List Expr} {kk : Nat} {tpos : Pos} {r S : Addr} {as : List Addr} (ne : S ≠ r) : Turn P w K (.Tuple elts kk tpos) (ItV as) [r, S] r (λ i h => h.IsRevIter r S ((as.length : Int) - 1 - i) /\ ∃ c, h.get? S = some { cls := .type "list", dict := none, data := .seq (as.map Value.ref).toArray c, slots := #[] }) where
  mem := by simp
  obj := λ i h st b hb => by
    obtain ⟨⟨o, ho, _, d⟩, c, e⟩ := st
    simp only [List.mem_cons, List.not_mem_nil, or_false] at hb
    rcases hb with rfl | rfl
    . exact ⟨o, ho, λ v z => by rw [d] at z; cases z⟩
    . exact ⟨_, e, λ v z => by cases z⟩
  keep := λ i h h' st k => by
    obtain ⟨⟨o, ho, q⟩, c, e⟩ := st
    exact ⟨⟨o, k r (by simp) _ ho, q⟩, c, k S (by simp) _ e⟩
  item := by
    intro X hP hw hK hc i pins s σ H E I hf st hg
    subst hP hw hK
    obtain ⟨hr, c, e⟩ := st
    have hg : i < as.length := hg
    obtain ⟨a, ha⟩ : ∃ a, as[as.length - 1 - i]? = some a := ⟨as[as.length - 1 - i], by simp⟩
    have ei : ((as.length : Int) - 1 - i) = ((as.length - 1 - i : Nat) : Int) := by omega
    rw [ei] at hr
    refine wpAny_pyNext_rev_item hr ⟨_, e, rfl, _, rfl⟩ (x := .ref a) (by simp [ha]) λ h' hr' sb => ⟨_, rfl, ?_⟩
    obtain ⟨o, ho, hcl, hd⟩ := id hr'
    refine go_of ho hcl hd (by decide) ⟨.ref a, H, ?_, rfl, ⟨rfl, a, ha, rfl⟩, ⟨?_, c, sb.extBut _ _ ne e⟩, λ b hb => (hf b hb).1⟩
    . exact I.turns (tk := s.toks) (λ b o nb q => sb.extBut b o (λ z => nb (by rw [z]; simp)) q) hf
    . have : ((as.length - 1 - i : Nat) : Int) - 1 = (as.length : Int) - 1 - ((i + 1 : Nat) : Int) := by omega
      rw [this] at hr'; exact hr'
  done := by
    intro X hP hw hK hc i pins s σ H E I hf st hg
    subst hP hw hK
    obtain ⟨hr, c, e⟩ := st
    have hg : i = as.length := hg
    rw [show (as.length : Int) - 1 - i = -1 by omega] at hr
    refine wpAny_pyNext_rev_end (show X.A.handled = none from I.ok.hd hc) hr λ h' ex => ⟨rfl, ?_⟩
    exact I.turns (tk := s.toks) (λ b o nb q => ex b o (λ z => nb (by rw [z]; simp)) q) hf
  self := λ _ _ _ _ _ st h => wpAny_pyIter_revIter st.1 h
def iRev (K : PySem.W.Frag) (ta : TA) : TI := λ σ H R => ta σ H λ vs H1 => ∃ a xs, vs = [.ref a] /\ SqL K H1 a xs /\ ∀ as H2, Adds 0 xs H1 as H2 -> as.length = xs.length -> R (ItV as) H2
theorem boot_reversed : bootBuiltins "reversed" = some (.type "reversed") := by decide +kernel
theorem spl1 {M : Model} {A : Around} {E : Value -> Shared -> Prop} {s : Shared} {env : Env} {e : Expr} {pos : Pos} {Q : List Value -> Shared -> Prop} (hs : starEach [e] env = [(false, eval e env)]) (h : wpAny M A (eval e env) (λ v s1 => Q [v] s1) E s) : wpAny M A (spliced (backTo pos (starEach [e] env))) Q E s := by
  rw [hs]
  show wpAny _ _ (spliced ((false, eval e env) :: [])) _ _ s
  exact Calls.spliced_cons (thn h λ u s1 q => Calls.spliced_nil q)
theorem pi_rev (K : PySem.W.Frag) {X : Cx} {a : Expr} {ta : TA} {elts : List Expr} {kk : Nat} {tpos p p1 p2 pos pos1 pos2 : Pos} (hg : Gl X "enumerate") (hm : X.mg "enumerate" = none) (hg1 : Gl X "list") (hm1 : X.mg "list" = none) (hg2 : Gl X "reversed") (hm2 : X.mg "reversed" = none) (ha : PA X [a] ta) (hcm : X.calm = true) (hK : X.K = K := by rfl) (hs : starEach [a] X.env = [(false, eval a X.env)] := by rfl)
    (hs1 : starEach [.Call (.Name "enumerate" p) [a] [] pos] X.env = [(false, eval (.Call (.Name "enumerate" p) [a] [] pos) X.env)] := by rfl) (hs2 : starEach [.Call (.Name "list" p1) [.Call (.Name "enumerate" p) [a] [] pos] [] pos1] X.env = [(false, eval (.Call (.Name "list" p1) [.Call (.Name "enumerate" p) [a] [] pos] [] pos1) X.env)] := by rfl) :
    PI X (.Tuple elts kk tpos) (.Call (.Name "reversed" p2) [.Call (.Name "list" p1) [.Call (.Name "enumerate" p) [a] [] pos] [] pos1] [] pos2) (iRev K ta) := by
  subst hK
  intro pins s σ H R I h
  refine Call_ (ld_blt I hg2 hm2 boot_reversed (PyProof.Rows.callWith_type1 (spl1 hs2 ?_) hs2 rfl))
  refine Call_ (ld_blt I hg1 hm1 bt_list (PyProof.Rows.callWith_type1 (spl1 hs1 ?_) hs1 rfl))
  refine Call_ (ld_blt I hg hm boot_enumerate (PyProof.Rows.callWith_type1 (thn (ha pos pins s σ H _ I h) λ us s1 ⟨vs, H1, I1, r1, q1⟩ => ?_) hs rfl))
  obtain ⟨l, xs, e, c, q⟩ := q1
  subst e
  obtain ⟨u, rfl, ru⟩ := r1.one
  cases ru
  obtain ⟨its, r, pl, hz⟩ := I1.list c
  have hd : X.A.handled = none := I1.ok.hd hcm
  have ll : l < s1.heap.objs.size := by obtain ⟨o, ho, _⟩ := pl.isList; exact Heap.lt_size ho
  have lits := r.length
  refine call_enumerate_list pl.isList λ g he hr hsz kp => ?_
  have nei : s1.heap.objs.size + 1 ≠ s1.heap.objs.size := Nat.ne_of_gt (Nat.lt_succ_self _)
  have pl2 : g.IsList l its.toArray := by obtain ⟨o, ho, z⟩ := pl.isList; exact ⟨o, kp l o ho, z⟩
  refine HR.call_listE (s := { s1 with heap := g }) hd (by rw [List.size_toArray]; omega) nei (Nat.ne_of_lt (Nat.lt_succ_of_lt ll)) (Nat.ne_of_lt ll) he hr pl2 λ g2 tk acc ca kp2 hS hacc tp => ?_
  have tp : HR.Tps g2 its.toArray acc g.objs.size (s1.heap.objs.size + 1) s1.heap.objs.size (g.objs.size + 1) := tp
  have hS : g2.get? g.objs.size = some { cls := .type "list", dict := none, data := .seq acc ca, slots := #[] } := hS
  have acl : acc.size = its.length := by simpa using hacc
  refine call_reversed_list (s := { s1 with heap := g2, toks := tk }) ⟨_, hS, rfl, _, rfl⟩ ?_
  obtain ⟨as, eas⟩ : ∃ as : List Addr, acc = (as.map Value.ref).toArray := by
    have : ∀ L : List Value, (∀ v ∈ L, ∃ a, v = .ref a) -> ∃ as : List Addr, L = as.map Value.ref := by
      intro L
      induction L with
      | nil => intro _; exact ⟨[], rfl⟩
      | cons v t ih =>
        intro h
        obtain ⟨a, rfl⟩ := h v (by simp)
        obtain ⟨as, rfl⟩ := ih λ v hv => h v (by simp [hv])
        exact ⟨a :: as, rfl⟩
    obtain ⟨as, e⟩ := this acc.toList λ v hv => by
      obtain ⟨j, hj, ej⟩ := List.mem_iff_getElem.mp hv
      obtain ⟨a, _, _, e, _⟩ := tp j (by simpa using hj)
      exact ⟨a, by rw [<- ej]; simp at hj; simp [hj] at e; exact e⟩
    exact ⟨as, by rw [<- e]⟩
  subst eas
  have lS : g.objs.size < g2.objs.size := Heap.lt_size hS
  have las : as.length = xs.length := by simp at acl; omega
  have kp3 : ∀ b o, s1.heap.get? b = some o -> (g2.push (revObj g.objs.size (((as.map Value.ref).toArray.size : Int) - 1))).get? b = some o := λ b o z => Heap.get?_push_of_some _ (kp2 b o (Nat.ne_of_lt (Nat.lt_succ_of_lt (Heap.lt_size z))) (Nat.ne_of_lt (Heap.lt_size z)) (kp b o z))
  have I2 := I1.kept (t' := tk) kp3
  obtain ⟨H2, ad, I3, ot⟩ := adopt_all xs its as 0 H1 I2 r las λ k a hk => by
    have hk' : k < as.length := (List.getElem?_eq_some_iff.mp hk).1
    obtain ⟨a', t, x, e1, e2, e3, e0, _⟩ := tp k (by simpa using hk')
    have ea : a' = a := by simp [hk] at e1; exact e1.symm
    subst ea
    have ge : s1.heap.objs.size <= a' := by rw [hsz] at e0; omega
    exact ⟨I1.fpOk ge (I1.hok.fresh ge), t, x, by simpa using e2, by rw [Nat.zero_add]; exact Heap.get?_push_of_some _ e3⟩
  have hrr : (g2.push (revObj g.objs.size (((as.map Value.ref).toArray.size : Int) - 1))).IsRevIter g2.objs.size g.objs.size ((as.length : Int) - 1 - (0 : Nat)) := ⟨_, Heap.get?_push_size _ rfl, rfl, by simp [revObj]⟩
  refine wpAny_pyIter_revIter hrr ?_
  have notin : ∀ b, (∀ a ∈ as, a ≠ b) -> b ∉ as := λ b h z => h b z rfl
  have asne : ∀ a ∈ as, a ≠ g.objs.size /\ a < g2.objs.size := λ a ha => by
    obtain ⟨k, hk, ek⟩ := List.mem_iff_getElem.mp ha
    obtain ⟨a', t, x, e1, e2, e3, e0, e4, _⟩ := tp k (by simpa using hk)
    have ea : a' = a := by simp [hk] at e1; rw [<- ek, e1]
    subst ea
    exact ⟨e4, Heap.lt_size e3⟩
  refine ⟨_, _, _, _, H2, rfl, I3, turn_rev (r := g2.objs.size) (S := g.objs.size) (as := as) (Nat.ne_of_lt lS), ⟨hrr, ca, Heap.get?_push_of_some _ hS⟩, λ b hb => ?_, q as H2 ad las⟩
  simp only [List.mem_cons, List.not_mem_nil, or_false] at hb
  have le : s1.heap.objs.size <= b := by rcases hb with rfl | rfl <;> omega
  refine I1.fpOk le ?_
  rw [ot b (by rcases hb with rfl | rfl; exact notin _ λ a ha => Nat.ne_of_lt (asne a ha).2; exact notin _ λ a ha => (asne a ha).1)]
  exact I1.hok.fresh le
section
variable {K : PySem.W.Frag}
theorem adds_rd {ρ : List Addr} {hd : Hd} : ∀ (xs : List V) (ds : List D) (j : Nat) (H : Hp) (as : List Addr) (H2 : Hp), Adds j xs H as H2 -> RH K ρ H hd -> RDs K ρ H ds xs -> RH K ρ H2 hd /\ Ext ρ H ρ H2 /\ ∀ (k : Nat) a d, as[k]? = some a -> ds[k]? = some d -> RD K ρ H2 (mkTup [.im (.int ((j + k : Nat) : Int)), d]) (.ref a)
  | [], ds, j, H, as, H2, ad, R, r => by
    obtain ⟨rfl, rfl⟩ := ad
    exact ⟨R, .refl, λ k a d h _ => by simp at h⟩
  | x :: xs, ds, j, H, as, H2, ad, R, r => by
    obtain ⟨p, as', rfl, fp, ad⟩ := ad
    obtain ⟨R1, x1⟩ := R.hid (ho := .tup [.int (j : Int), x]) fp
    have re := r.ext R x1
    cases ds with
    | nil => have := r.len; cases this
    | cons d ds =>
      obtain ⟨_, _, ee, rd, r2⟩ := re
      cases ee
      obtain ⟨R2, x2, f⟩ := adds_rd xs ds (j + 1) _ as' H2 ad R1 r2
      refine ⟨R2, x1.trans R1 x2, λ k a d' h1 h2 => ?_⟩
      cases k with
      | zero =>
        cases (Option.some.inj (show some p = some a from h1))
        cases (Option.some.inj (show some d = some d' from h2))
        have := (rd_mkTup (ds := [.im (.int (j : Int)), d]) (SqT.of upd_same) (.cons (by simp [RD, RI]) (.cons rd .nil))).ext R1 x2
        simpa using this
      | succ k =>
        have := f k a d' (by simpa using h1) (by simpa using h2)
        rw [show j + 1 + k = j + (k + 1) by omega] at this
        exact this
def mRev (ma : MI) : MI := λ ls hd => (ma ls hd).map λ p => (((p.1.1.zipIdx.map λ q => mkTup [.im (.int (q.2 : Int)), q.1]).reverse, p.1.2), p.2)
theorem ri_rev {ta : TE} {ma : MI} (ha : RRw K false ta ma) : RIt K (iRev K (tCons ta tNil)) (mRev ma) := by
  intro ρ σ H hd ls Q d g hd' hR hL hm hQ
  obtain ⟨⟨⟨d1, g1⟩, h1⟩, e1, e2⟩ := Option.map_eq_some_iff.mp hm
  cases e2
  refine ha ρ σ H hd ls _ d1 g1 h1 hR hL e1 λ ρ1 H1 a x1 R1 G1 S1 => ?_
  obtain ⟨xs, c1, r1⟩ := S1 ρ1 H1 _ .refl R1 G1
  have l1 := r1.len
  refine ⟨a, xs, rfl, c1, λ as H2 ad las => ?_⟩
  obtain ⟨R2, x2, f⟩ := adds_rd xs d1 0 H1 as H2 ad R1 r1
  refine hQ ρ1 H2 _ (x1.trans R1 x2) R2 G1 ?_
  intro ρ3 H3 hd3 x3 R3 G3 i
  refine ⟨λ hi => ?_, λ hi => ?_⟩
  . have hi : i < d1.length := by simpa using hi
    refine ⟨show i < as.length by omega, λ z H4 hz => ?_⟩
    obtain ⟨rfl, a', ea, rfl⟩ := hz
    have hk : d1.length - 1 - i < d1.length := by omega
    have ed : d1[d1.length - 1 - i]? = some d1[d1.length - 1 - i] := by simp
    have q := f (as.length - 1 - i) a' d1[d1.length - 1 - i] ea (by rw [show as.length = d1.length by omega]; exact ed)
    refine ⟨ρ3, _, .refl, rfl, R3, ?_, q.ext R2 x3⟩
    rw [List.getElem?_reverse (by simpa using hi), List.getElem?_map, List.getElem?_zipIdx]
    simp only [List.length_map, List.length_zipIdx, ed, Option.map_some]
    rw [show as.length = d1.length by omega]
  . have hi : i = d1.length := by simpa using hi
    show i = as.length
    omega
theorem qi_rev (K : PySem.W.Frag) {X : Cx} {a : Expr} {ta : TE} {ma : MI} {elts : List Expr} {kk : Nat} {tpos p p1 p2 pos pos1 pos2 : Pos} (hm : X.mg "enumerate" = none) (hm1 : X.mg "list" = none) (hm2 : X.mg "reversed" = none) (ha : QR K false X a ta ma) (hc : X.calm = true := by rfl) (hg : Gl X "enumerate" := by rfl) (hg1 : Gl X "list" := by rfl) (hg2 : Gl X "reversed" := by rfl) (hK : X.K = K := by rfl) (hs : starEach [a] X.env = [(false, eval a X.env)] := by rfl)
    (hs1 : starEach [.Call (.Name "enumerate" p) [a] [] pos] X.env = [(false, eval (.Call (.Name "enumerate" p) [a] [] pos) X.env)] := by rfl) (hs2 : starEach [.Call (.Name "list" p1) [.Call (.Name "enumerate" p) [a] [] pos] [] pos1] X.env = [(false, eval (.Call (.Name "list" p1) [.Call (.Name "enumerate" p) [a] [] pos] [] pos1) X.env)] := by rfl) :
    QI K X (.Tuple elts kk tpos) (.Call (.Name "reversed" p2) [.Call (.Name "list" p1) [.Call (.Name "enumerate" p) [a] [] pos] [] pos1] [] pos2) (iRev K (tCons ta tNil)) (mRev ma) := ⟨pi_rev K hg hm hg1 hm1 hg2 hm2 (pa_cons ha.p pa_nil hs) hc hK hs hs1 hs2, ri_rev ha.r⟩
theorem wi_rev {ma : MI} {ls : Ls} {hd : Hd} {QI : List D × Gd -> Hd -> Prop} (h : WI ma ls hd λ p x => QI ((p.1.zipIdx.map λ q => mkTup [.im (.int (q.2 : Int)), q.1]).reverse, p.2) x) : WI (mRev ma) ls hd QI := by
  obtain ⟨p, x, e, q⟩ := h
  exact ⟨_, _, by simp only [mRev, e, Option.map_some], q⟩
end
end L2
namespace L2
open PySem PySem.Spec PyProof.Rows PySem.W
section
variable {X : Cx} {pins : List (Addr × Obj)} {σ : St} {l f It S : Addr} {src : Hp -> List V -> Prop} {G : Hp -> Prop} {tb : TE} {cap : St} {Q : VK} {E : Value -> Shared -> Prop}
end
end L2
namespace L2
open PySem PySem.Spec PyProof.Rows PySem.W
section
variable {X : Cx} {c P : Addr} {scope : Scope} {fr : List Str} {ix : List Nat} {prm : Str} {params : Arguments} {body e : Expr} {p pos lpos kpos : Pos} {te tb : TE}
end
end L2
namespace L2
open PySem PySem.Spec PyProof.Rows PySem.W
section
variable {K : PySem.W.Frag} {hd : Hd}
end
end L2
namespace L2
open PySem PySem.Spec PyProof.Rows PySem.W
section
variable {X : Cx} {pins : List (Addr × Obj)} {σ : St} {l f It S : Addr} {src : Hp -> List V -> Prop} {G : Hp -> Prop} {tb : TE} {cap : St} {Q : VK} {E : Value -> Shared -> Prop}
end
section
variable {X : Cx} {c P : Addr} {scope : Scope} {fr : List Str} {ix : List Nat} {prm : Str} {params : Arguments} {body e : Expr} {p pos lpos kpos : Pos} {te tb : TE}
end
section
variable {K : PySem.W.Frag} {hd : Hd}
end
end L2
namespace T39
open PySem L2
def top (i : Nat) : Stmt := PySem.Challenge.pw_benchdays_k39_sets_of_a_weight.main.body.getD i (.Pass ⟨0, 0, 0, 0⟩)
abbrev s_same_coming : Stmt := top 4
theorem sc_same_coming : FnScope ["works", "coming"] ["works"] (defScope s_same_coming) := ⟨rfl, rfl, rfl, by decide +kernel, rfl, by decide +kernel, by decide +kernel⟩
@[reducible] noncomputable def m_same_coming : MS := (mSeq (mSet 1 (mOp gIx (mOp gIx (mVar 0) (mC (.int 0))) (mC (.int 1))))
    (mSeq (mIfS (mTru (mHid kAll (mComp 1 [1] (mItT (mVar 0)) (nName 0) mYes (mOp gEq (mOp gIx (mVar 0) (mC (.int 1))) (mVar 1)))))
      (mRet (mVar 1))
      mNext)
    (mRet (mC .non))))
noncomputable def F_same_coming : List D -> Hd -> Option (D × Hd) := mkF 1 2 m_same_coming
abbrev s_one_coming : Stmt := top 5
theorem sc_one_coming : FnScope ["works", "coming"] ["works"] (defScope s_one_coming) := ⟨rfl, rfl, rfl, by decide +kernel, rfl, by decide +kernel, by decide +kernel⟩
@[reducible] noncomputable def m_one_coming : MS := (mSeq (mSet 1 (mCallW 0 F_same_coming (mCons (mVar 0) mNil)))
    (mSeq (mIfS (mTest (mIsN false (mVar 1)))
      mNever
      mNext)
    (mRet (mVar 1))))
noncomputable def F_one_coming : List D -> Hd -> Option (D × Hd) := mkF 1 2 m_one_coming
abbrev s_refuse_other_costs : Stmt := top 6
theorem sc_refuse_other_costs : FnScope ["works", "word"] ["works", "word"] (defScope s_refuse_other_costs) := ⟨rfl, rfl, rfl, by decide +kernel, rfl, by decide +kernel, by decide +kernel⟩
@[reducible] noncomputable def m_refuse_other_costs : MS := (mIfS (mTru (mHid kAny (mComp 1 [1] (mItT (mVar 0)) (nName 0) mYes (mOp gNe (mOp gIx (mOp gIx (mVar 0) (mC (.int 2))) (mC (.int 0))) (mVar 1)))))
      mNever
      mNext)
noncomputable def F_refuse_other_costs : List D -> Hd -> Option (D × Hd) := mkF 2 2 m_refuse_other_costs
abbrev s_weight_of : Stmt := top 7
theorem sc_weight_of : FnScope ["work"] ["work"] (defScope s_weight_of) := ⟨rfl, rfl, rfl, by decide +kernel, rfl, by decide +kernel, by decide +kernel⟩
@[reducible] noncomputable def m_weight_of : MS := (mRet (mOp gIx (mOp gIx (mVar 0) (mC (.int 2))) (mNeg (mC (.int 1)))))
noncomputable def F_weight_of : List D -> Hd -> Option (D × Hd) := mkF 1 1 m_weight_of
abbrev s_late_coming : Stmt := top 9
theorem sc_late_coming : FnScope ["works", "coming"] ["works"] (defScope s_late_coming) := ⟨rfl, rfl, rfl, by decide +kernel, rfl, by decide +kernel, by decide +kernel⟩
@[reducible] noncomputable def m_late_coming : MS := (mSeq (mSet 1 (mCallW 0 F_one_coming (mCons (mVar 0) mNil)))
    (mSeq (mDrop (mCallW 0 F_refuse_other_costs (mCons (mVar 0) (mCons (mC (.str "miss")) mNil))))
    (mRet (mVar 1))))
noncomputable def F_late_coming : List D -> Hd -> Option (D × Hd) := mkF 1 2 m_late_coming
abbrev s_by_dues : Stmt := top 10
theorem sc_by_dues : FnScope ["works"] ["works"] (defScope s_by_dues) := ⟨rfl, rfl, rfl, by decide +kernel, rfl, by decide +kernel, by decide +kernel⟩
@[reducible] noncomputable def m_by_dues : MS := (mRet (mNew (mSortKR (mCons (mCB (f1 true kLen) (mCons (mVar 0) mNil)) mNil) [0] (mTup (mCons (mOp gIx (mOp gIx (mOp gIx (mVar 1) (mVar 0)) (mC (.int 2))) (mC (.int 1))) (mCons (mVar 0) mNil))))))
noncomputable def F_by_dues : List D -> Hd -> Option (D × Hd) := mkF 1 1 m_by_dues
abbrev s_full_weight : Stmt := top 11
theorem sc_full_weight : FnScope ["works"] ["works"] (defScope s_full_weight) := ⟨rfl, rfl, rfl, by decide +kernel, rfl, by decide +kernel, by decide +kernel⟩
@[reducible] noncomputable def m_full_weight : MS := (mRet (mHid kSum (mComp 1 [] (mItT (mVar 0)) (nName 0) mYes (mCallW 0 F_weight_of (mCons (mVar 0) mNil)))))
noncomputable def F_full_weight : List D -> Hd -> Option (D × Hd) := mkF 1 1 m_full_weight
abbrev s_no_more : Stmt := top 12
theorem sc_no_more : FnScope ["one", "other"] ["one", "other"] (defScope s_no_more) := ⟨rfl, rfl, rfl, by decide +kernel, rfl, by decide +kernel, by decide +kernel⟩
@[reducible] noncomputable def m_no_more : MS := (mRet (mOrV (mIsN false (mVar 1)) (mAndV (mIsN true (mVar 0)) (mOp gLe (mVar 0) (mVar 1)))))
noncomputable def F_no_more : List D -> Hd -> Option (D × Hd) := mkF 2 2 m_no_more
abbrev s_put_behind : Stmt := top 13
theorem sc_put_behind : FnScope ["row", "work", "w", "length", "coming", "word", "due", "weight", "end"] ["row", "work", "w"] (defScope s_put_behind) := ⟨rfl, rfl, rfl, by decide +kernel, rfl, by decide +kernel, by decide +kernel⟩
@[reducible] noncomputable def m_put_behind : MS := (mSeq (mAsg (mVar 1) (nTup 3 (nCons (nName 3) (nCons (nName 4) (nCons (nTup 3 (nCons (nName 5) (nCons (nName 6) (nCons (nName 7) nNil)))) nNil)))))
    (mSeq (mIfS (mOr (mTest (mOp gLt (mVar 2) (mVar 7))) (mTest (mIsN false (mOp gIx (mVar 0) (mOp gSubt (mVar 2) (mVar 7))))))
      (mRet (mC .non))
      mNext)
    (mSeq (mSet 8 (mOp gAddA (mOp gIx (mVar 0) (mOp gSubt (mVar 2) (mVar 7))) (mVar 3)))
    (mRet (mIf (mTest (mOp gLe (mVar 8) (mVar 6))) (mVar 8) (mC .non))))))
noncomputable def F_put_behind : List D -> Hd -> Option (D × Hd) := mkF 3 9 m_put_behind
abbrev s_next_row : Stmt := top 15
theorem sc_next_row : FnScope ["above", "work", "row", "w", "kept", "more"] ["above", "work"] (defScope s_next_row) := ⟨rfl, rfl, rfl, by decide +kernel, rfl, by decide +kernel, by decide +kernel⟩
@[reducible] noncomputable def m_next_row : MS := (mSeq (mSet 2 (mNew (mLst mNil)))
    (mSeq (mFor (mEnum (mItT (mVar 0))) (nTup 2 (nCons (nName 3) (nCons (nName 4) nNil)))
      (mSeq (mSet 5 (mCallW 0 F_put_behind (mCons (mVar 0) (mCons (mVar 1) (mCons (mVar 3) mNil)))))
    (mDrop (mMt fAppend (mVar 2) (mCons (mIf (mTru (mCallW 0 F_no_more (mCons (mVar 4) (mCons (mVar 5) mNil)))) (mVar 4) (mVar 5)) mNil)))))
    (mRet (mCB (f1 true kTuple) (mCons (mVar 2) mNil)))))
noncomputable def F_next_row : List D -> Hd -> Option (D × Hd) := mkF 2 6 m_next_row
abbrev s_table_of : Stmt := top 16
theorem sc_table_of : FnScope ["works", "coming", "rows", "j"] ["works"] (defScope s_table_of) := ⟨rfl, rfl, rfl, by decide +kernel, rfl, by decide +kernel, by decide +kernel⟩
@[reducible] noncomputable def m_table_of : MS := (mSeq (mSet 1 (mCallW 0 F_late_coming (mCons (mVar 0) mNil)))
    (mSeq (mSet 2 (mNew (mLst (mCons (mOp gAddA (mTup (mCons (mVar 1) mNil)) (mRepT (mTup (mCons (mC .non) mNil)) (mCallW 0 F_full_weight (mCons (mVar 0) mNil)))) mNil))))
    (mSeq (mFor (mItL (mCallW 0 F_by_dues (mCons (mVar 0) mNil))) (nName 3)
      (mDrop (mMt fAppend (mVar 2) (mCons (mCallW 0 F_next_row (mCons (mOp gIx (mVar 2) (mNeg (mC (.int 1)))) (mCons (mOp gIx (mVar 0) (mVar 3)) mNil))) mNil))))
    (mRet (mCB (f1 true kTuple) (mCons (mVar 2) mNil))))))
noncomputable def F_table_of : List D -> Hd -> Option (D × Hd) := mkF 1 4 m_table_of
abbrev s_in_time : Stmt := top 17
theorem sc_in_time : FnScope ["works", "w", "table", "some", "k", "j"] ["works", "w"] (defScope s_in_time) := ⟨rfl, rfl, rfl, by decide +kernel, rfl, by decide +kernel, by decide +kernel⟩
@[reducible] noncomputable def m_in_time : MS := (mSeq (mSet 2 (mCallW 0 F_table_of (mCons (mVar 0) mNil)))
    (mSeq (mIfS (mOr (mTest (mOp gLt (mVar 1) (mC (.int 0)))) (mOr (mTest (mOp gGt (mVar 1) (mCallW 0 F_full_weight (mCons (mVar 0) mNil)))) (mTest (mIsN false (mOp gIx (mOp gIx (mVar 2) (mNeg (mC (.int 1)))) (mVar 1))))))
      (mRet (mC .non))
      mNext)
    (mSeq (mSet 3 (mNew (mLst mNil)))
    (mSeq (mFor (mRev (mItL (mCallW 0 F_by_dues (mCons (mVar 0) mNil)))) (nTup 2 (nCons (nName 4) (nCons (nName 5) nNil)))
      (mIfS (mTest (mOp gNe (mOp gIx (mOp gIx (mVar 2) (mOp gAddA (mVar 4) (mC (.int 1)))) (mVar 1)) (mOp gIx (mOp gIx (mVar 2) (mVar 4)) (mVar 1))))
      (mSeq (mDrop (mMt fAppend (mVar 3) (mCons (mVar 5) mNil)))
    (mAug 1 (λ i j => i - j) (mCallW 0 F_weight_of (mCons (mOp gIx (mVar 0) (mVar 5)) mNil))))
      mNext))
    (mRet (mHid kTuple (mSorted (mItL (mVar 3)))))))))
noncomputable def F_in_time : List D -> Hd -> Option (D × Hd) := mkF 2 6 m_in_time
abbrev s_source : Stmt := top 19
theorem sc_source : FnScope ["_law_script"] ["_law_script"] (defScope s_source) := ⟨rfl, rfl, rfl, by decide +kernel, rfl, by decide +kernel, by decide +kernel⟩
@[reducible] noncomputable def m_source : MS := (mRet (mDisp [((mC (.str "cells")), (mNew (mListH (mSlL (mVar 0) mNoPart (mPart (mC (.int 63))))))), ((mC (.str "at")), (mC (.int 0))), ((mC (.str "rest")), (mC (.int 0))), ((mC (.str "count")), (mC (.int 0)))]))
noncomputable def F_source : List D -> Hd -> Option (D × Hd) := mkF 1 1 m_source
abbrev s_pick : Stmt := top 20
theorem sc_pick : FnScope ["_law_source_here", "_law_many", "_law_found", "_law_cells", "_law_cell", "_law_mixed"] ["_law_source_here", "_law_many"] (defScope s_pick) := ⟨rfl, rfl, rfl, by decide +kernel, rfl, by decide +kernel, by decide +kernel⟩
@[reducible] noncomputable def m_pick : MS := (mSeq (mDPut (mVar 0) (mC (.str "count")) (mOp gAddA (mOp gDGet (mVar 0) (mC (.str "count"))) (mC (.int 1))))
    (mSeq (mIfS (mTest (mOp gGt (mOp gDGet (mVar 0) (mC (.str "rest"))) (mC (.int 0))))
      (mSeq (mSet 2 (mOp gMod (mOp gDGet (mVar 0) (mC (.str "rest"))) (mVar 1)))
    (mSeq (mDPut (mVar 0) (mC (.str "rest")) (mOp gFdiv (mOp gDGet (mVar 0) (mC (.str "rest"))) (mVar 1)))
    (mRet (mVar 2))))
      mNext)
    (mSeq (mSet 3 (mOp gDGet (mVar 0) (mC (.str "cells"))))
    (mSeq (mSet 4 (mIf (mTest (mEqEN true (mVar 3) (mLst mNil))) (mOp gIx (mVar 3) (mOp gMod (mOp gDGet (mVar 0) (mC (.str "at"))) (mCB (f1 true kLen) (mCons (mVar 3) mNil)))) (mC (.int 11))))
    (mSeq (mDPut (mVar 0) (mC (.str "at")) (mOp gAddA (mOp gDGet (mVar 0) (mC (.str "at"))) (mC (.int 1))))
    (mSeq (mIfS (mAnd (mTest (mOp gGe (mVar 4) (mOp gPow (mC (.int 10)) (mC (.int 18))))) (mTest (mOp gLe (mOp gDGet (mVar 0) (mC (.str "at"))) (mCB (f1 true kLen) (mCons (mVar 3) mNil)))))
      (mSeq (mDPut (mVar 0) (mC (.str "rest")) (mOp gFdiv (mVar 4) (mVar 1)))
    (mRet (mOp gMod (mVar 4) (mVar 1))))
      mNext)
    (mSeq (mSet 5 (mOp gAddA (mOp gMod (mVar 4) (mC (.int 1073741827))) (mOp gMul (mC (.int 611953)) (mOp gDGet (mVar 0) (mC (.str "count"))))))
    (mSeq (mSet 5 (mOp gMod (mOp gAddA (mOp gAddA (mOp gMul (mVar 5) (mVar 5)) (mOp gMul (mC (.int 3)) (mOp gDGet (mVar 0) (mC (.str "count"))))) (mC (.int 7))) (mC (.int 2147483543))))
    (mSeq (mSet 5 (mOp gMod (mOp gAddA (mOp gAddA (mOp gMul (mVar 5) (mVar 5)) (mOp gMul (mC (.int 69069)) (mOp gDGet (mVar 0) (mC (.str "count"))))) (mC (.int 1))) (mC (.int 2147483497))))
    (mRet (mOp gMod (mOp gFdiv (mVar 5) (mC (.int 256))) (mVar 1))))))))))))
noncomputable def F_pick : List D -> Hd -> Option (D × Hd) := mkF 2 6 m_pick
abbrev s_late_works : Stmt := top 21
theorem sc_late_works : FnScope ["_law_source_here", "_law_most", "_law_many", "_law_coming", "_law_longest", "_law_heaviest", "_law_span", "_law_works", "_law_k", "_law_way", "_law_length", "_law_due", "_law_weight", "_law_work"] ["_law_source_here", "_law_most"] (defScope s_late_works) := ⟨rfl, rfl, rfl, by decide +kernel, rfl, by decide +kernel, by decide +kernel⟩
@[reducible] noncomputable def m_late_works : MS := (mSeq (mSet 2 (mOp gAddA (mC (.int 1)) (mCallW 2 F_pick (mCons (mVar 0) (mCons (mVar 1) mNil)))))
    (mSeq (mSet 3 (mCallW 2 F_pick (mCons (mVar 0) (mCons (mC (.int 61)) mNil))))
    (mSeq (mSet 4 (mIxH (mLst (mCons (mC (.int 20)) (mCons (mC (.int 5)) (mCons (mC (.int 2)) mNil)))) (mCallW 2 F_pick (mCons (mVar 0) (mCons (mC (.int 3)) mNil)))))
    (mSeq (mSet 5 (mIxH (mLst (mCons (mC (.int 9)) (mCons (mC (.int 3)) (mCons (mC (.int 1)) mNil)))) (mCallW 2 F_pick (mCons (mVar 0) (mCons (mC (.int 3)) mNil)))))
    (mSeq (mSet 6 (mOp gAddA (mC (.int 2)) (mOp gFdiv (mOp gMul (mVar 2) (mVar 4)) (mOp gAddA (mC (.int 1)) (mCallW 2 F_pick (mCons (mVar 0) (mCons (mC (.int 2)) mNil)))))))
    (mSeq (mSet 7 (mNew (mLst mNil)))
    (mSeq (mFor (mItR (mCons (mVar 2) mNil)) (nName 8)
      (mSeq (mSet 9 (mCallW 2 F_pick (mCons (mVar 0) (mCons (mC (.int 6)) mNil))))
    (mSeq (mSet 10 (mOp gAddA (mC (.int 1)) (mCallW 2 F_pick (mCons (mVar 0) (mCons (mVar 4) mNil)))))
    (mSeq (mSet 11 (mOp gAddA (mOp gSubt (mVar 3) (mC (.int 1))) (mCallW 2 F_pick (mCons (mVar 0) (mCons (mVar 6) mNil)))))
    (mSeq (mSet 12 (mCallW 2 F_pick (mCons (mVar 0) (mCons (mOp gAddA (mVar 5) (mC (.int 1))) mNil))))
    (mSeq (mIfS (mTest (mOp gEq (mVar 9) (mC (.int 0))))
      (mSet 11 (mOp gSubt (mCallW 2 F_pick (mCons (mVar 0) (mCons (mC (.int 500)) mNil))) (mC (.int 99))))
      mNext)
    (mSeq (mIfS (mAnd (mTest (mOp gEq (mVar 9) (mC (.int 1)))) (mTest (mOp gGt (mVar 8) (mC (.int 0)))))
      (mSet 11 (mOp gIx (mOp gIx (mOp gIx (mVar 7) (mCallW 2 F_pick (mCons (mVar 0) (mCons (mVar 8) mNil)))) (mC (.int 2))) (mC (.int 1))))
      mNext)
    (mSeq (mSet 13 (mTup (mCons (mVar 10) (mCons (mVar 3) (mCons (mTup (mCons (mC (.str "miss")) (mCons (mVar 11) (mCons (mVar 12) mNil)))) mNil)))))
    (mSeq (mIfS (mAnd (mTest (mOp gEq (mVar 9) (mC (.int 2)))) (mTest (mOp gGt (mVar 8) (mC (.int 0)))))
      (mSet 13 (mOp gIx (mVar 7) (mCallW 2 F_pick (mCons (mVar 0) (mCons (mVar 8) mNil)))))
      mNext)
    (mDrop (mMt fAppend (mVar 7) (mCons (mVar 13) mNil))))))))))))
    (mRet (mCB (f1 true kTuple) (mCons (mVar 7) mNil))))))))))
noncomputable def F_late_works : List D -> Hd -> Option (D × Hd) := mkF 2 14 m_late_works
abbrev s_far : Stmt := top 22
theorem sc_far : FnScope ["_law_source_here", "_law_works", "_law_way", "_law_days", "_law_j", "_law_found", "_law_k", "_law_length", "_law_coming", "_law_cost", "_law_later"] ["_law_source_here", "_law_works"] (defScope s_far) := ⟨rfl, rfl, rfl, by decide +kernel, rfl, by decide +kernel, by decide +kernel⟩
@[reducible] noncomputable def m_far : MS := (mSeq (mSet 2 (mCallW 2 F_pick (mCons (mVar 0) (mCons (mC (.int 3)) mNil))))
    (mSeq (mSet 3 (mOp gSubt (mCallW 2 F_pick (mCons (mVar 0) (mCons (mC (.int 1999)) mNil))) (mC (.int 999))))
    (mSeq (mSet 4 (mCallW 2 F_pick (mCons (mVar 0) (mCons (mCB (f1 true kLen) (mCons (mVar 1) mNil)) mNil))))
    (mSeq (mSet 5 (mNew (mLst mNil)))
    (mSeq (mFor (mEnum (mItT (mVar 1))) (nTup 2 (nCons (nName 6) (nCons (nTup 3 (nCons (nName 7) (nCons (nName 8) (nCons (nName 9) nNil)))) nNil)))
      (mIfS (mTest (mOp gEq (mVar 2) (mC (.int 2))))
      (mDrop (mMt fAppend (mVar 5) (mCons (mTup (mCons (mVar 7) (mCons (mC (.int 0)) (mCons (mTup (mCons (mC (.str "miss")) (mCons (mOp gSubt (mVar 3) (mCallW 2 F_pick (mCons (mVar 0) (mCons (mC (.int 61)) mNil)))) (mCons (mC (.int 1)) mNil)))) mNil)))) mNil)))
      (mSeq (mSet 10 (mIf (mOr (mTest (mOp gEq (mVar 2) (mC (.int 0)))) (mTest (mOp gEq (mVar 6) (mVar 4)))) (mVar 3) (mC (.int 0))))
    (mDrop (mMt fAppend (mVar 5) (mCons (mTup (mCons (mVar 7) (mCons (mVar 8) (mCons (mTup (mCons (mC (.str "miss")) (mCons (mOp gAddA (mOp gIx (mVar 9) (mC (.int 1))) (mVar 10)) (mCons (mOp gIx (mVar 9) (mC (.int 2))) mNil)))) mNil)))) mNil))))))
    (mRet (mCB (f1 true kTuple) (mCons (mVar 5) mNil))))))))
noncomputable def F_far : List D -> Hd -> Option (D × Hd) := mkF 2 11 m_far
abbrev s_lby_dues : Stmt := top 23
theorem sc_lby_dues : FnScope ["_law_works"] ["_law_works"] (defScope s_lby_dues) := ⟨rfl, rfl, rfl, by decide +kernel, rfl, by decide +kernel, by decide +kernel⟩
@[reducible] noncomputable def m_lby_dues : MS := (mRet (mNew (mComp 1 [] (mItH (mSortedP (mItH (mComp 1 [0] (mItR (mCons (mCB (f1 true kLen) (mCons (mVar 0) mNil)) mNil)) (nName 0) mYes (mTup (mCons (mOp gIx (mOp gIx (mOp gIx (mVar 1) (mVar 0)) (mC (.int 2))) (mC (.int 1))) (mCons (mVar 0) mNil))))))) (nName 0) mYes (mOp gIx (mVar 0) (mC (.int 1))))))
noncomputable def F_lby_dues : List D -> Hd -> Option (D × Hd) := mkF 1 1 m_lby_dues
abbrev s_sets : Stmt := top 24
theorem sc_sets : FnScope ["_law_works", "_law_found", "_law_row", "_law_k", "_law_length", "_law_coming", "_law_cost", "_law_fitting"] ["_law_works"] (defScope s_sets) := ⟨rfl, rfl, rfl, by decide +kernel, rfl, by decide +kernel, by decide +kernel⟩
@[reducible] noncomputable def m_sets : MS := (mSeq (mSet 1 (mNew (mLst (mCons (mTup (mCons (mC (.int 0)) (mCons (mC (.int 0)) (mCons (mOp gIx (mOp gIx (mVar 0) (mC (.int 0))) (mC (.int 1))) (mCons (mNew (mLst mNil)) mNil))))) mNil))))
    (mSeq (mFor (mEnum (mItL (mCallW 0 F_lby_dues (mCons (mVar 0) mNil)))) (nTup 2 (nCons (nName 2) (nCons (nName 3) nNil)))
      (mSeq (mAsg (mOp gIx (mVar 0) (mVar 3)) (nTup 3 (nCons (nName 4) (nCons (nName 5) (nCons (nName 6) nNil)))))
    (mSeq (mSet 7 (mNew (mComp 1 [4, 6] (mItL (mVar 1)) (nName 0) (mTest (mOp gLe (mOp gAddA (mOp gIx (mVar 0) (mC (.int 2))) (mVar 1)) (mOp gIx (mVar 2) (mC (.int 1))))) (mVar 0))))
    (mSet 1 (mNew (mCat (mVar 1) (mNew (mComp 1 [2, 6, 4, 3] (mItL (mVar 7)) (nName 0) mYes (mTup (mCons (mOp gAddA (mVar 1) (mC (.int 1))) (mCons (mOp gAddA (mOp gIx (mVar 0) (mC (.int 1))) (mOp gIx (mVar 2) (mC (.int 2)))) (mCons (mOp gAddA (mOp gIx (mVar 0) (mC (.int 2))) (mVar 3)) (mCons (mNew (mCat (mOp gIx (mVar 0) (mC (.int 3))) (mNew (mLst (mCons (mVar 4) mNil))))) mNil)))))))))))))
    (mRet (mVar 1))))
noncomputable def F_sets : List D -> Hd -> Option (D × Hd) := mkF 1 8 m_sets
abbrev s_is_set : Stmt := top 25
theorem sc_is_set : FnScope ["_law_many", "_law_some", "_law_at", "_law_k"] ["_law_many", "_law_some"] (defScope s_is_set) := ⟨rfl, rfl, rfl, by decide +kernel, rfl, by decide +kernel, by decide +kernel⟩
@[reducible] noncomputable def m_is_set : MS := (mSeq (mIfS (mNot (mTru (mIsi .tuple (mVar 1))))
      (mRet (mC (.bl false)))
      mNext)
    (mSeq (mFor (mEnum (mItT (mVar 1))) (nTup 2 (nCons (nName 2) (nCons (nName 3) nNil)))
      (mIfS (mOr (mNot (mTru (mIsi .int (mVar 3)))) (mOr (mTru (mIsi .bool (mVar 3))) (mOr (mTest (mOp gLt (mVar 3) (mC (.int 0)))) (mOr (mTest (mOp gGe (mVar 3) (mVar 0))) (mAnd (mTest (mOp gGt (mVar 2) (mC (.int 0)))) (mTest (mOp gGe (mOp gIx (mVar 1) (mOp gSubt (mVar 2) (mC (.int 1)))) (mVar 3))))))))
      (mRet (mC (.bl false)))
      mNext))
    (mRet (mC (.bl true)))))
noncomputable def F_is_set : List D -> Hd -> Option (D × Hd) := mkF 2 4 m_is_set
abbrev s_end_in_time : Stmt := top 26
theorem sc_end_in_time : FnScope ["_law_works", "_law_some", "_law_end", "_law_k"] ["_law_works", "_law_some"] (defScope s_end_in_time) := ⟨rfl, rfl, rfl, by decide +kernel, rfl, by decide +kernel, by decide +kernel⟩
@[reducible] noncomputable def m_end_in_time : MS := (mSeq (mSet 2 (mOp gIx (mOp gIx (mVar 0) (mC (.int 0))) (mC (.int 1))))
    (mSeq (mFor (mItL (mCallW 0 F_lby_dues (mCons (mVar 0) mNil))) (nName 3)
      (mIfS (mTest (mOp (gIn false) (mVar 3) (mVar 1)))
      (mSeq (mSet 2 (mOp gAddA (mVar 2) (mOp gIx (mOp gIx (mVar 0) (mVar 3)) (mC (.int 0)))))
    (mIfS (mTest (mOp gGt (mVar 2) (mOp gIx (mOp gIx (mOp gIx (mVar 0) (mVar 3)) (mC (.int 2))) (mC (.int 1)))))
      (mRet (mC .non))
      mNext))
      mNext))
    (mRet (mVar 2))))
noncomputable def F_end_in_time : List D -> Hd -> Option (D × Hd) := mkF 2 4 m_end_in_time
abbrev s_told_so : Stmt := top 27
theorem sc_told_so : FnScope ["_law_works", "_law_weight", "_law_ends", "_law_told"] ["_law_works", "_law_weight", "_law_ends"] (defScope s_told_so) := ⟨rfl, rfl, rfl, by decide +kernel, rfl, by decide +kernel, by decide +kernel⟩
@[reducible] noncomputable def m_told_so : MS := (mSeq (mSet 3 (mCallW 0 F_in_time (mCons (mVar 0) (mCons (mVar 1) mNil))))
    (mSeq (mIfS (mTest (mEqEN false (mVar 2) (mLst mNil)))
      (mRet (mIsN false (mVar 3)))
      mNext)
    (mSeq (mIfS (mOr (mNot (mTru (mCallW 0 F_is_set (mCons (mCB (f1 true kLen) (mCons (mVar 0) mNil)) (mCons (mVar 3) mNil))))) (mTest (mOp gNe (mHid kSum (mComp 1 [0] (mItT (mVar 3)) (nName 0) mYes (mOp gIx (mOp gIx (mOp gIx (mVar 1) (mVar 0)) (mC (.int 2))) (mC (.int 2))))) (mVar 1))))
      (mRet (mC (.bl false)))
      mNext)
    (mRet (mOp gEq (mCallW 0 F_end_in_time (mCons (mVar 0) (mCons (mVar 3) mNil))) (mCB (f1 false kMin) (mCons (mVar 2) mNil)))))))
noncomputable def F_told_so : List D -> Hd -> Option (D × Hd) := mkF 3 4 m_told_so
abbrev s_law : Stmt := top 28
theorem sc_law : FnScope ["_law_script", "_law_source_here", "_law_most", "_law_works", "_law_full", "_law_asked", "_law_some", "_law_sets_here", "_law_weight"] ["_law_script"] (defScope s_law) := ⟨rfl, rfl, rfl, by decide +kernel, rfl, by decide +kernel, by decide +kernel⟩
@[reducible] noncomputable def m_law : MS := (mSeq (mSet 1 (mCallG F_source (mCons (mVar 0) mNil)))
    (mSeq (mSet 2 (mIxH (mLst (mCons (mC (.int 3)) (mCons (mC (.int 5)) (mCons (mC (.int 8)) mNil)))) (mCallW 2 F_pick (mCons (mVar 1) (mCons (mC (.int 3)) mNil)))))
    (mSeq (mSet 3 (mCallW 2 F_late_works (mCons (mVar 1) (mCons (mVar 2) mNil))))
    (mSeq (mSet 4 (mHid kSum (mComp 1 [] (mItT (mVar 3)) (nName 0) mYes (mOp gIx (mOp gIx (mVar 0) (mC (.int 2))) (mC (.int 2))))))
    (mSeq (mSet 5 (mNew (mComp 1 [1, 4] (mItR (mCons (mC (.int 5)) mNil)) (nName 0) mYes (mOp gSubt (mCallW 2 F_pick (mCons (mVar 1) (mCons (mOp gAddA (mVar 2) (mC (.int 3))) mNil))) (mC (.int 1))))))
    (mSeq (mDrop (mMt fAppend (mVar 5) (mCons (mIxH (mLst (mCons (mNeg (mC (.int 999))) (mCons (mC (.int 999)) (mCons (mVar 4) mNil)))) (mCallW 2 F_pick (mCons (mVar 1) (mCons (mC (.int 3)) mNil)))) mNil)))
    (mSeq (mFor (mItT (mTup (mCons (mVar 3) (mCons (mCallW 2 F_far (mCons (mVar 1) (mCons (mVar 3) mNil))) mNil)))) (nName 6)
      (mSeq (mSet 7 (mCallG F_sets (mCons (mVar 6) mNil)))
    (mFor (mItL (mVar 5)) (nName 8)
      (mIfS (mNot (mTru (mCallG F_told_so (mCons (mVar 6) (mCons (mVar 8) (mCons (mNew (mComp 1 [8] (mItL (mVar 7)) (nName 0) (mTest (mOp gEq (mOp gIx (mVar 0) (mC (.int 1))) (mVar 1))) (mOp gIx (mVar 0) (mC (.int 2))))) mNil))))))
      (mRet (mC (.bl false)))
      mNext))))
    (mRet (mC (.bl true))))))))))
noncomputable def F_law : List D -> Hd -> Option (D × Hd) := mkF 1 9 m_law
section
variable {P : Program} {w : World} {K : PySem.W.Frag} {mg : Str -> Option Value} {base : Heap}
theorem ok_same_coming {f_same_coming : Addr} {d_same_coming : FuncData} (DA : DefAt K mg "same_coming" s_same_coming f_same_coming d_same_coming ["works"])  (B : BltA mg) : FnOk P w K mg base CX0 1 f_same_coming d_same_coming ["works"] (spF K 1 F_same_coming) := by
  refine ok_data (N := ["works", "coming"]) (m := m_same_coming) DA sc_same_coming λ cdv A outer s H E hr => ?_
  exact ⟨_, (qss_cons K (qs_set K (i := 1) sc_same_coming.nd rfl (by first | exact Or.inl rfl | exact Or.inr rfl) (qe_ix K (qe_ix K (qv K 0) (qe_int K)) (qe_int K)))
    (qss_cons K (qs_if K (qt_truth K (qe_hb K (call_allK K rfl) rg_all B.all L2.bt_all (qn_comp K (loc := ["work"]) (fr := ["coming"]) (ix := [1]) rfl ⟨rfl, by decide +kernel, rfl, rfl, rfl, by decide +kernel⟩ (qi_tup K (qv K 0)) (λ _ _ _ => (qg_name K (i := 0) (show (["work", "coming"] : List Str).Nodup from by decide +kernel) rfl (by first | exact Or.inl rfl | exact Or.inr rfl))) (λ _ _ _ => (qf_nil K)) (λ _ _ _ => (qe_cmp K ((op_eq).or (op_eqDK K hr.units)) (rb_else rb_eqS rb_eqP) (qe_ix K (qv K 0) (qe_int K)) (qv K 1))))))
      (qss_one K (qs_ret K (qv K 1)))
      (qss_nil K))
    (qss_one K (qs_ret K (qe_non K)))))⟩
theorem ok_one_coming {f_one_coming f_same_coming : Addr} {d_one_coming d_same_coming : FuncData} (DA : DefAt K mg "one_coming" s_one_coming f_one_coming d_one_coming ["works"]) (D_same_coming : DefAt K mg "same_coming" s_same_coming f_same_coming d_same_coming ["works"]) (G_same_coming : FnOk P w K mg base CX0 1 f_same_coming d_same_coming ["works"] (spF K 1 F_same_coming)) (B : BltA mg) : FnOk P w K mg base CX0 2 f_one_coming d_one_coming ["works"] (spF K 1 F_one_coming) := by
  refine ok_data (N := ["works", "coming"]) (m := m_one_coming) DA sc_one_coming λ cdv A outer s H E hr => ?_
  exact ⟨_, (qss_cons K (qs_set K (i := 1) sc_one_coming.nd rfl (by first | exact Or.inl rfl | exact Or.inr rfl) (qe_callW K 0 G_same_coming hr D_same_coming (qa_cons K (qv K 0) (qa_nil K)) mkF_len))
    (qss_cons K (qs_if K (qt_isN K (qv K 1))
      (qss_one K (qs_never K))
      (qss_nil K))
    (qss_one K (qs_ret K (qv K 1)))))⟩
theorem ok_refuse_other_costs {f_refuse_other_costs : Addr} {d_refuse_other_costs : FuncData} (DA : DefAt K mg "refuse_other_costs" s_refuse_other_costs f_refuse_other_costs d_refuse_other_costs ["works", "word"])  (B : BltA mg) : FnOk P w K mg base CX0 1 f_refuse_other_costs d_refuse_other_costs ["works", "word"] (spF K 2 F_refuse_other_costs) := by
  refine ok_data (N := ["works", "word"]) (m := m_refuse_other_costs) DA sc_refuse_other_costs λ cdv A outer s H E hr => ?_
  exact ⟨_, (qss_one K (qs_if K (qt_truth K (qe_hb K (call_anyK K rfl) rg_any B.any L2.bt_any (qn_comp K (loc := ["work"]) (fr := ["word"]) (ix := [1]) rfl ⟨rfl, by decide +kernel, rfl, rfl, rfl, by decide +kernel⟩ (qi_tup K (qv K 0)) (λ _ _ _ => (qg_name K (i := 0) (show (["work", "word"] : List Str).Nodup from by decide +kernel) rfl (by first | exact Or.inl rfl | exact Or.inr rfl))) (λ _ _ _ => (qf_nil K)) (λ _ _ _ => (qe_cmp K ((op_ne).or (op_neDK K hr.units)) (rb_else rb_neS rb_neP) (qe_ix K (qe_ix K (qv K 0) (qe_int K)) (qe_int K)) (qv K 1))))))
      (qss_one K (qs_never K))
      (qss_nil K)))⟩
theorem ok_weight_of {f_weight_of : Addr} {d_weight_of : FuncData} (DA : DefAt K mg "weight_of" s_weight_of f_weight_of d_weight_of ["work"])  (B : BltA mg) : FnOk P w K mg base CX0 1 f_weight_of d_weight_of ["work"] (spF K 1 F_weight_of) := by
  refine ok_data (N := ["work"]) (m := m_weight_of) DA sc_weight_of λ cdv A outer s H E hr => ?_
  exact ⟨_, (qss_one K (qs_ret K (qe_ix K (qe_ix K (qv K 0) (qe_int K)) (qe_neg K (qe_int K)))))⟩
theorem ok_late_coming {f_late_coming f_one_coming f_refuse_other_costs : Addr} {d_late_coming d_one_coming d_refuse_other_costs : FuncData} (DA : DefAt K mg "late_coming" s_late_coming f_late_coming d_late_coming ["works"]) (D_one_coming : DefAt K mg "one_coming" s_one_coming f_one_coming d_one_coming ["works"]) (G_one_coming : FnOk P w K mg base CX0 2 f_one_coming d_one_coming ["works"] (spF K 1 F_one_coming)) (D_refuse_other_costs : DefAt K mg "refuse_other_costs" s_refuse_other_costs f_refuse_other_costs d_refuse_other_costs ["works", "word"]) (G_refuse_other_costs : FnOk P w K mg base CX0 1 f_refuse_other_costs d_refuse_other_costs ["works", "word"] (spF K 2 F_refuse_other_costs)) (B : BltA mg) : FnOk P w K mg base CX0 3 f_late_coming d_late_coming ["works"] (spF K 1 F_late_coming) := by
  refine ok_data (N := ["works", "coming"]) (m := m_late_coming) DA sc_late_coming λ cdv A outer s H E hr => ?_
  exact ⟨_, (qss_cons K (qs_set K (i := 1) sc_late_coming.nd rfl (by first | exact Or.inl rfl | exact Or.inr rfl) (qe_callW K 0 G_one_coming hr D_one_coming (qa_cons K (qv K 0) (qa_nil K)) mkF_len))
    (qss_cons K (qs_expr K (qe_callW K 0 G_refuse_other_costs hr D_refuse_other_costs (qa_cons K (qv K 0) (qa_cons K (qe_str K) (qa_nil K))) mkF_len))
    (qss_one K (qs_ret K (qv K 1)))))⟩
theorem ok_by_dues {f_by_dues : Addr} {d_by_dues : FuncData} (DA : DefAt K mg "by_dues" s_by_dues f_by_dues d_by_dues ["works"])  {c_by_dues P_by_dues : Addr} (LC : LamC K mg base d_by_dues c_by_dues P_by_dues ((("by_dues" : Str) ++ ".<locals>.") ++ "<lambda>") ⟨30, 41, 30, 70⟩) (B : BltA mg) : FnOk P w K mg base CX0 4 f_by_dues d_by_dues ["works"] (spF K 1 F_by_dues) := by
  refine ok_dataC (N := ["works"]) (m := m_by_dues) DA sc_by_dues λ cdv A outer s H E hcd hr => ?_
  exact ⟨_, (qss_one K (qs_ret K (qe_new K (qn_sortS K (prm := "j") (fr := ["works"]) (ix := [0]) ⟨hcd.symm.trans LC.code, LC.hd, LC.bl⟩ LC.ti ⟨rfl, by decide +kernel, rfl, rfl, rfl, by decide +kernel⟩ ⟨rfl, rfl, rfl, rfl⟩ hr (by decide) B.sorted (qsrc_rng K B.range (qa_cons K (qe_cb K (call_lenK K) (rf_1 rg_len) B.len L2.bt_len (qa_cons K (qv K 0) (qa_nil K))) (qa_nil K))) (λ _ _ _ _ => (qe_tup K (qa_cons K (qe_ix K (qe_ix K (qe_ix K (qv K 1) (qv K 0)) (qe_int K)) (qe_int K)) (qa_cons K (qv K 0) (qa_nil K))))) (λ _ _ _ _ _ => rfl)))))⟩
theorem ok_full_weight {f_full_weight f_weight_of : Addr} {d_full_weight d_weight_of : FuncData} (DA : DefAt K mg "full_weight" s_full_weight f_full_weight d_full_weight ["works"]) (D_weight_of : DefAt K mg "weight_of" s_weight_of f_weight_of d_weight_of ["work"]) (G_weight_of : FnOk P w K mg base CX0 1 f_weight_of d_weight_of ["work"] (spF K 1 F_weight_of)) (B : BltA mg) : FnOk P w K mg base CX0 2 f_full_weight d_full_weight ["works"] (spF K 1 F_full_weight) := by
  refine ok_data (N := ["works"]) (m := m_full_weight) DA sc_full_weight λ cdv A outer s H E hr => ?_
  exact ⟨_, (qss_one K (qs_ret K (qe_hb K ((call_sumK K rfl).or (call_sumTK K rfl)) rg_sum B.sum L2.bt_sum (qn_comp K (loc := ["work"]) (fr := []) (ix := []) rfl ⟨rfl, by decide +kernel, rfl, rfl, rfl, by decide +kernel⟩ (qi_tup K (qv K 0)) (λ _ _ _ => (qg_name K (i := 0) (show (["work"] : List Str).Nodup from by decide +kernel) rfl (by first | exact Or.inl rfl | exact Or.inr rfl))) (λ _ _ _ => (qf_nil K)) (λ _ _ _ => (qe_callW K 0 G_weight_of hr D_weight_of (qa_cons K (qv K 0) (qa_nil K)) mkF_len))))))⟩
theorem ok_no_more {f_no_more : Addr} {d_no_more : FuncData} (DA : DefAt K mg "no_more" s_no_more f_no_more d_no_more ["one", "other"])  (B : BltA mg) : FnOk P w K mg base CX0 1 f_no_more d_no_more ["one", "other"] (spF K 2 F_no_more) := by
  refine ok_data (N := ["one", "other"]) (m := m_no_more) DA sc_no_more λ cdv A outer s H E hr => ?_
  exact ⟨_, (qss_one K (qs_ret K (qe_or K (qe_isN K (qv K 1)) (qe_one K (qe_and K (qe_notN K (qv K 0)) (qe_one K (qe_cmp K op_le rb_le (qv K 0) (qv K 1))))))))⟩
theorem ok_put_behind {f_put_behind : Addr} {d_put_behind : FuncData} (DA : DefAt K mg "put_behind" s_put_behind f_put_behind d_put_behind ["row", "work", "w"])  (B : BltA mg) : FnOk P w K mg base CX0 1 f_put_behind d_put_behind ["row", "work", "w"] (spF K 3 F_put_behind) := by
  refine ok_data (N := ["row", "work", "w", "length", "coming", "word", "due", "weight", "end"]) (m := m_put_behind) DA sc_put_behind λ cdv A outer s H E hr => ?_
  exact ⟨_, (qss_cons K (qs_asg K (qv K 1) (qg_tup K (n := 3) rfl (qgs_cons K (qg_name K (i := 3) sc_put_behind.nd rfl (by first | exact Or.inl rfl | exact Or.inr rfl)) (qgs_cons K (qg_name K (i := 4) sc_put_behind.nd rfl (by first | exact Or.inl rfl | exact Or.inr rfl)) (qgs_cons K (qg_tup K (n := 3) rfl (qgs_cons K (qg_name K (i := 5) sc_put_behind.nd rfl (by first | exact Or.inl rfl | exact Or.inr rfl)) (qgs_cons K (qg_name K (i := 6) sc_put_behind.nd rfl (by first | exact Or.inl rfl | exact Or.inr rfl)) (qgs_cons K (qg_name K (i := 7) sc_put_behind.nd rfl (by first | exact Or.inl rfl | exact Or.inr rfl)) (qgs_nil K))))) (qgs_nil K))))))
    (qss_cons K (qs_if K (QW.toT (qw_or K (qt_cmp K op_lt rb_lt (qv K 2) (qv K 7)) (qw_or1 K (qt_isN K (qe_ix K (qv K 0) (qe_op K op_sub rb_sub (qv K 2) (qv K 7)))))))
      (qss_one K (qs_ret K (qe_non K)))
      (qss_nil K))
    (qss_cons K (qs_set K (i := 8) sc_put_behind.nd rfl (by first | exact Or.inl rfl | exact Or.inr rfl) (qe_op K ((op_add).or (op_catTK K)) (rb_else rb_add rb_catT) (qe_ix K (qv K 0) (qe_op K op_sub rb_sub (qv K 2) (qv K 7))) (qv K 3)))
    (qss_one K (qs_ret K (qe_ifExp K (qt_cmp K op_le rb_le (qv K 8) (qv K 6)) (qv K 8) (qe_non K)))))))⟩
theorem ok_next_row {f_next_row f_no_more f_put_behind : Addr} {d_next_row d_no_more d_put_behind : FuncData} (DA : DefAt K mg "next_row" s_next_row f_next_row d_next_row ["above", "work"]) (D_no_more : DefAt K mg "no_more" s_no_more f_no_more d_no_more ["one", "other"]) (G_no_more : FnOk P w K mg base CX0 1 f_no_more d_no_more ["one", "other"] (spF K 2 F_no_more)) (D_put_behind : DefAt K mg "put_behind" s_put_behind f_put_behind d_put_behind ["row", "work", "w"]) (G_put_behind : FnOk P w K mg base CX0 1 f_put_behind d_put_behind ["row", "work", "w"] (spF K 3 F_put_behind)) (B : BltA mg) : FnOk P w K mg base CX0 2 f_next_row d_next_row ["above", "work"] (spF K 2 F_next_row) := by
  refine ok_data (N := ["above", "work", "row", "w", "kept", "more"]) (m := m_next_row) DA sc_next_row λ cdv A outer s H E hr => ?_
  exact ⟨_, (qss_cons K (qs_set K (i := 2) sc_next_row.nd rfl (by first | exact Or.inl rfl | exact Or.inr rfl) (qe_new K (qn_lst K (qa_nil K))))
    (qss_cons K (qs_for K rfl (qi_enumT K B.enumerate (qr_tup K (qv K 0))) (qg_tup K (n := 2) rfl (qgs_cons K (qg_name K (i := 3) sc_next_row.nd rfl (by first | exact Or.inl rfl | exact Or.inr rfl)) (qgs_cons K (qg_name K (i := 4) sc_next_row.nd rfl (by first | exact Or.inl rfl | exact Or.inr rfl)) (qgs_nil K))))
      (qss_cons K (qs_set K (i := 5) sc_next_row.nd rfl (by first | exact Or.inl rfl | exact Or.inr rfl) (qe_callW K 0 G_put_behind hr D_put_behind (qa_cons K (qv K 0) (qa_cons K (qv K 1) (qa_cons K (qv K 3) (qa_nil K)))) mkF_len))
    (qss_one K (qs_expr K (qe_mt K PySem.F.slot_list_append PySem.F.type_list_append mt_append rm_append (qv K 2) (qa_cons K (qe_ifExp K (qt_truth K (qe_callW K 0 G_no_more hr D_no_more (qa_cons K (qv K 4) (qa_cons K (qv K 5) (qa_nil K))) mkF_len)) (qv K 4) (qv K 5)) (qa_nil K)))))))
    (qss_one K (qs_ret K (qe_ct K (call_tupleK K) (rf_1 rg_tuple) B.tuple L2.bt_tuple (qa_cons K (qv K 2) (qa_nil K)))))))⟩
theorem ok_table_of {f_table_of f_late_coming f_by_dues f_full_weight f_next_row : Addr} {d_table_of d_late_coming d_by_dues d_full_weight d_next_row : FuncData} (DA : DefAt K mg "table_of" s_table_of f_table_of d_table_of ["works"]) (D_late_coming : DefAt K mg "late_coming" s_late_coming f_late_coming d_late_coming ["works"]) (G_late_coming : FnOk P w K mg base CX0 3 f_late_coming d_late_coming ["works"] (spF K 1 F_late_coming)) (D_by_dues : DefAt K mg "by_dues" s_by_dues f_by_dues d_by_dues ["works"]) (G_by_dues : FnOk P w K mg base CX0 4 f_by_dues d_by_dues ["works"] (spF K 1 F_by_dues)) (D_full_weight : DefAt K mg "full_weight" s_full_weight f_full_weight d_full_weight ["works"]) (G_full_weight : FnOk P w K mg base CX0 2 f_full_weight d_full_weight ["works"] (spF K 1 F_full_weight)) (D_next_row : DefAt K mg "next_row" s_next_row f_next_row d_next_row ["above", "work"]) (G_next_row : FnOk P w K mg base CX0 2 f_next_row d_next_row ["above", "work"] (spF K 2 F_next_row)) (B : BltA mg) : FnOk P w K mg base CX0 5 f_table_of d_table_of ["works"] (spF K 1 F_table_of) := by
  refine ok_data (N := ["works", "coming", "rows", "j"]) (m := m_table_of) DA sc_table_of λ cdv A outer s H E hr => ?_
  exact ⟨_, (qss_cons K (qs_set K (i := 1) sc_table_of.nd rfl (by first | exact Or.inl rfl | exact Or.inr rfl) (qe_callW K 0 G_late_coming hr D_late_coming (qa_cons K (qv K 0) (qa_nil K)) mkF_len))
    (qss_cons K (qs_set K (i := 2) sc_table_of.nd rfl (by first | exact Or.inl rfl | exact Or.inr rfl) (qe_new K (qn_lst K (qa_cons K (qe_op K ((op_add).or (op_catTK K)) (rb_else rb_add rb_catT) (qe_tup K (qa_cons K (qv K 1) (qa_nil K))) (qe_repT K (qe_tup K (qa_cons K (qe_non K) (qa_nil K))) (qe_callW K 0 G_full_weight hr D_full_weight (qa_cons K (qv K 0) (qa_nil K)) mkF_len))) (qa_nil K)))))
    (qss_cons K (qs_for K rfl (qi_list K (qe_callW K 0 G_by_dues hr D_by_dues (qa_cons K (qv K 0) (qa_nil K)) mkF_len)) (qg_name K (i := 3) sc_table_of.nd rfl (by first | exact Or.inl rfl | exact Or.inr rfl))
      (qss_one K (qs_expr K (qe_mt K PySem.F.slot_list_append PySem.F.type_list_append mt_append rm_append (qv K 2) (qa_cons K (qe_callW K 0 G_next_row hr D_next_row (qa_cons K (qe_ix K (qv K 2) (qe_neg K (qe_int K))) (qa_cons K (qe_ix K (qv K 0) (qv K 3)) (qa_nil K))) mkF_len) (qa_nil K))))))
    (qss_one K (qs_ret K (qe_ct K (call_tupleK K) (rf_1 rg_tuple) B.tuple L2.bt_tuple (qa_cons K (qv K 2) (qa_nil K))))))))⟩
theorem ok_in_time {f_in_time f_weight_of f_by_dues f_full_weight f_table_of : Addr} {d_in_time d_weight_of d_by_dues d_full_weight d_table_of : FuncData} (DA : DefAt K mg "in_time" s_in_time f_in_time d_in_time ["works", "w"]) (D_weight_of : DefAt K mg "weight_of" s_weight_of f_weight_of d_weight_of ["work"]) (G_weight_of : FnOk P w K mg base CX0 1 f_weight_of d_weight_of ["work"] (spF K 1 F_weight_of)) (D_by_dues : DefAt K mg "by_dues" s_by_dues f_by_dues d_by_dues ["works"]) (G_by_dues : FnOk P w K mg base CX0 4 f_by_dues d_by_dues ["works"] (spF K 1 F_by_dues)) (D_full_weight : DefAt K mg "full_weight" s_full_weight f_full_weight d_full_weight ["works"]) (G_full_weight : FnOk P w K mg base CX0 2 f_full_weight d_full_weight ["works"] (spF K 1 F_full_weight)) (D_table_of : DefAt K mg "table_of" s_table_of f_table_of d_table_of ["works"]) (G_table_of : FnOk P w K mg base CX0 5 f_table_of d_table_of ["works"] (spF K 1 F_table_of)) (B : BltA mg) : FnOk P w K mg base CX0 6 f_in_time d_in_time ["works", "w"] (spF K 2 F_in_time) := by
  refine ok_data (N := ["works", "w", "table", "some", "k", "j"]) (m := m_in_time) DA sc_in_time λ cdv A outer s H E hr => ?_
  exact ⟨_, (qss_cons K (qs_set K (i := 2) sc_in_time.nd rfl (by first | exact Or.inl rfl | exact Or.inr rfl) (qe_callW K 0 G_table_of hr D_table_of (qa_cons K (qv K 0) (qa_nil K)) mkF_len))
    (qss_cons K (qs_if K (QW.toT (qw_or K (qt_cmp K op_lt rb_lt (qv K 1) (qe_int K)) (qw_or K (qt_cmp K op_gt rb_gt (qv K 1) (qe_callW K 0 G_full_weight hr D_full_weight (qa_cons K (qv K 0) (qa_nil K)) mkF_len)) (qw_or1 K (qt_isN K (qe_ix K (qe_ix K (qv K 2) (qe_neg K (qe_int K))) (qv K 1)))))))
      (qss_one K (qs_ret K (qe_non K)))
      (qss_nil K))
    (qss_cons K (qs_set K (i := 3) sc_in_time.nd rfl (by first | exact Or.inl rfl | exact Or.inr rfl) (qe_new K (qn_lst K (qa_nil K))))
    (qss_cons K (qs_for K rfl (qi_rev K B.enumerate B.list B.reversed (qr_list K (qe_callW K 0 G_by_dues hr D_by_dues (qa_cons K (qv K 0) (qa_nil K)) mkF_len))) (qg_tup K (n := 2) rfl (qgs_cons K (qg_name K (i := 4) sc_in_time.nd rfl (by first | exact Or.inl rfl | exact Or.inr rfl)) (qgs_cons K (qg_name K (i := 5) sc_in_time.nd rfl (by first | exact Or.inl rfl | exact Or.inr rfl)) (qgs_nil K))))
      (qss_one K (qs_if K (qt_cmp K ((op_ne).or (op_neDK K hr.units)) (rb_else rb_neS rb_neP) (qe_ix K (qe_ix K (qv K 2) (qe_op K ((op_add).or (op_catTK K)) (rb_else rb_add rb_catT) (qv K 4) (qe_int K))) (qv K 1)) (qe_ix K (qe_ix K (qv K 2) (qv K 4)) (qv K 1)))
      (qss_cons K (qs_expr K (qe_mt K PySem.F.slot_list_append PySem.F.type_list_append mt_append rm_append (qv K 3) (qa_cons K (qv K 5) (qa_nil K))))
    (qss_one K (qs_aug K (i := 1) sc_in_time.nd rfl (by first | exact Or.inl rfl | exact Or.inr rfl) (qe_callW K 0 G_weight_of hr D_weight_of (qa_cons K (qe_ix K (qv K 0) (qv K 5)) (qa_nil K)) mkF_len) ip_sub)))
      (qss_nil K))))
    (qss_one K (qs_ret K (qe_ht K (call_tupleK K) rg_tuple B.tuple L2.bt_tuple (qn_sortedL K B.sorted (qr_list K (qv K 3))))))))))⟩
theorem ok_source {f_source : Addr} {d_source : FuncData} (DA : DefAt K mg "_law_source" s_source f_source d_source ["_law_script"])  (B : BltA mg) : FnOk P w K mg base CX0 1 f_source d_source ["_law_script"] (spF K 1 F_source) := by
  refine ok_data (N := ["_law_script"]) (m := m_source) DA sc_source λ cdv A outer s H E hr => ?_
  exact ⟨_, (qss_one K (qs_ret K (qe_disp K (qps_cons K (qe_str K) (qe_new K (qn_listH K B.list (qn_slL K (qv K 0) (qo_none K) (qo_some K (qe_int K))))) (qps_cons K (qe_str K) (qe_int K) (qps_cons K (qe_str K) (qe_int K) (qps_cons K (qe_str K) (qe_int K) (qps_nil K))))))))⟩
theorem ok_pick {f_pick : Addr} {d_pick : FuncData} (DA : DefAt K mg "_law_pick" s_pick f_pick d_pick ["_law_source_here", "_law_many"])  (B : BltA mg) : FnOk P w K mg base CX0 1 f_pick d_pick ["_law_source_here", "_law_many"] (spF K 2 F_pick) := by
  refine ok_data (N := ["_law_source_here", "_law_many", "_law_found", "_law_cells", "_law_cell", "_law_mixed"]) (m := m_pick) DA sc_pick λ cdv A outer s H E hr => ?_
  exact ⟨_, (qss_cons K (qs_dput K (hu_of hr) (qv K 0) (qe_str K) (qe_op K ((op_add).or (op_catTK K)) (rb_else rb_add rb_catT) (qe_dget K (hu_of hr) (qv K 0) (qe_str K)) (qe_int K)))
    (qss_cons K (qs_if K (qt_cmp K op_gt rb_gt (qe_dget K (hu_of hr) (qv K 0) (qe_str K)) (qe_int K))
      (qss_cons K (qs_set K (i := 2) sc_pick.nd rfl (by first | exact Or.inl rfl | exact Or.inr rfl) (qe_op K op_mod rb_mod (qe_dget K (hu_of hr) (qv K 0) (qe_str K)) (qv K 1)))
    (qss_cons K (qs_dput K (hu_of hr) (qv K 0) (qe_str K) (qe_op K op_fdiv rb_fdiv (qe_dget K (hu_of hr) (qv K 0) (qe_str K)) (qv K 1)))
    (qss_one K (qs_ret K (qv K 2)))))
      (qss_nil K))
    (qss_cons K (qs_set K (i := 3) sc_pick.nd rfl (by first | exact Or.inl rfl | exact Or.inr rfl) (qe_dget K (hu_of hr) (qv K 0) (qe_str K)))
    (qss_cons K (qs_set K (i := 4) sc_pick.nd rfl (by first | exact Or.inl rfl | exact Or.inr rfl) (qe_ifExp K (qt_eqEN K (op_neH K hr.units) (qv K 3) (qn_lst K (qa_nil K))) (qe_ix K (qv K 3) (qe_op K op_mod rb_mod (qe_dget K (hu_of hr) (qv K 0) (qe_str K)) (qe_cb K (call_lenK K) (rf_1 rg_len) B.len L2.bt_len (qa_cons K (qv K 3) (qa_nil K))))) (qe_int K)))
    (qss_cons K (qs_dput K (hu_of hr) (qv K 0) (qe_str K) (qe_op K ((op_add).or (op_catTK K)) (rb_else rb_add rb_catT) (qe_dget K (hu_of hr) (qv K 0) (qe_str K)) (qe_int K)))
    (qss_cons K (qs_if K (QW.toT (qw_and K (qt_cmp K op_ge rb_ge (qv K 4) (qe_op K op_pow rb_pow (qe_int K) (qe_int K))) (qw_and1 K (qt_cmp K op_le rb_le (qe_dget K (hu_of hr) (qv K 0) (qe_str K)) (qe_cb K (call_lenK K) (rf_1 rg_len) B.len L2.bt_len (qa_cons K (qv K 3) (qa_nil K)))))))
      (qss_cons K (qs_dput K (hu_of hr) (qv K 0) (qe_str K) (qe_op K op_fdiv rb_fdiv (qv K 4) (qv K 1)))
    (qss_one K (qs_ret K (qe_op K op_mod rb_mod (qv K 4) (qv K 1)))))
      (qss_nil K))
    (qss_cons K (qs_set K (i := 5) sc_pick.nd rfl (by first | exact Or.inl rfl | exact Or.inr rfl) (qe_op K ((op_add).or (op_catTK K)) (rb_else rb_add rb_catT) (qe_op K op_mod rb_mod (qv K 4) (qe_int K)) (qe_op K op_mul rb_mul (qe_int K) (qe_dget K (hu_of hr) (qv K 0) (qe_str K)))))
    (qss_cons K (qs_set K (i := 5) sc_pick.nd rfl (by first | exact Or.inl rfl | exact Or.inr rfl) (qe_op K op_mod rb_mod (qe_op K ((op_add).or (op_catTK K)) (rb_else rb_add rb_catT) (qe_op K ((op_add).or (op_catTK K)) (rb_else rb_add rb_catT) (qe_op K op_mul rb_mul (qv K 5) (qv K 5)) (qe_op K op_mul rb_mul (qe_int K) (qe_dget K (hu_of hr) (qv K 0) (qe_str K)))) (qe_int K)) (qe_int K)))
    (qss_cons K (qs_set K (i := 5) sc_pick.nd rfl (by first | exact Or.inl rfl | exact Or.inr rfl) (qe_op K op_mod rb_mod (qe_op K ((op_add).or (op_catTK K)) (rb_else rb_add rb_catT) (qe_op K ((op_add).or (op_catTK K)) (rb_else rb_add rb_catT) (qe_op K op_mul rb_mul (qv K 5) (qv K 5)) (qe_op K op_mul rb_mul (qe_int K) (qe_dget K (hu_of hr) (qv K 0) (qe_str K)))) (qe_int K)) (qe_int K)))
    (qss_one K (qs_ret K (qe_op K op_mod rb_mod (qe_op K op_fdiv rb_fdiv (qv K 5) (qe_int K)) (qv K 1)))))))))))))⟩
theorem ok_late_works {f_late_works f_pick : Addr} {d_late_works d_pick : FuncData} (DA : DefAt K mg "_law_late_works" s_late_works f_late_works d_late_works ["_law_source_here", "_law_most"]) (D_pick : DefAt K mg "_law_pick" s_pick f_pick d_pick ["_law_source_here", "_law_many"]) (G_pick : FnOk P w K mg base CX0 1 f_pick d_pick ["_law_source_here", "_law_many"] (spF K 2 F_pick)) (B : BltA mg) : FnOk P w K mg base CX0 2 f_late_works d_late_works ["_law_source_here", "_law_most"] (spF K 2 F_late_works) := by
  refine ok_data (N := ["_law_source_here", "_law_most", "_law_many", "_law_coming", "_law_longest", "_law_heaviest", "_law_span", "_law_works", "_law_k", "_law_way", "_law_length", "_law_due", "_law_weight", "_law_work"]) (m := m_late_works) DA sc_late_works λ cdv A outer s H E hr => ?_
  exact ⟨_, (qss_cons K (qs_set K (i := 2) sc_late_works.nd rfl (by first | exact Or.inl rfl | exact Or.inr rfl) (qe_op K ((op_add).or (op_catTK K)) (rb_else rb_add rb_catT) (qe_int K) (qe_callW K 2 G_pick hr D_pick (qa_cons K (qv K 0) (qa_cons K (qv K 1) (qa_nil K))) mkF_len)))
    (qss_cons K (qs_set K (i := 3) sc_late_works.nd rfl (by first | exact Or.inl rfl | exact Or.inr rfl) (qe_callW K 2 G_pick hr D_pick (qa_cons K (qv K 0) (qa_cons K (qe_int K) (qa_nil K))) mkF_len))
    (qss_cons K (qs_set K (i := 4) sc_late_works.nd rfl (by first | exact Or.inl rfl | exact Or.inr rfl) (qe_ixH K (qn_lst K (qa_cons K (qe_int K) (qa_cons K (qe_int K) (qa_cons K (qe_int K) (qa_nil K))))) (qe_callW K 2 G_pick hr D_pick (qa_cons K (qv K 0) (qa_cons K (qe_int K) (qa_nil K))) mkF_len)))
    (qss_cons K (qs_set K (i := 5) sc_late_works.nd rfl (by first | exact Or.inl rfl | exact Or.inr rfl) (qe_ixH K (qn_lst K (qa_cons K (qe_int K) (qa_cons K (qe_int K) (qa_cons K (qe_int K) (qa_nil K))))) (qe_callW K 2 G_pick hr D_pick (qa_cons K (qv K 0) (qa_cons K (qe_int K) (qa_nil K))) mkF_len)))
    (qss_cons K (qs_set K (i := 6) sc_late_works.nd rfl (by first | exact Or.inl rfl | exact Or.inr rfl) (qe_op K ((op_add).or (op_catTK K)) (rb_else rb_add rb_catT) (qe_int K) (qe_op K op_fdiv rb_fdiv (qe_op K op_mul rb_mul (qv K 2) (qv K 4)) (qe_op K ((op_add).or (op_catTK K)) (rb_else rb_add rb_catT) (qe_int K) (qe_callW K 2 G_pick hr D_pick (qa_cons K (qv K 0) (qa_cons K (qe_int K) (qa_nil K))) mkF_len)))))
    (qss_cons K (qs_set K (i := 7) sc_late_works.nd rfl (by first | exact Or.inl rfl | exact Or.inr rfl) (qe_new K (qn_lst K (qa_nil K))))
    (qss_cons K (qs_for K rfl (qi_rng1 K B.range (qa_cons K (qv K 2) (qa_nil K))) (qg_name K (i := 8) sc_late_works.nd rfl (by first | exact Or.inl rfl | exact Or.inr rfl))
      (qss_cons K (qs_set K (i := 9) sc_late_works.nd rfl (by first | exact Or.inl rfl | exact Or.inr rfl) (qe_callW K 2 G_pick hr D_pick (qa_cons K (qv K 0) (qa_cons K (qe_int K) (qa_nil K))) mkF_len))
    (qss_cons K (qs_set K (i := 10) sc_late_works.nd rfl (by first | exact Or.inl rfl | exact Or.inr rfl) (qe_op K ((op_add).or (op_catTK K)) (rb_else rb_add rb_catT) (qe_int K) (qe_callW K 2 G_pick hr D_pick (qa_cons K (qv K 0) (qa_cons K (qv K 4) (qa_nil K))) mkF_len)))
    (qss_cons K (qs_set K (i := 11) sc_late_works.nd rfl (by first | exact Or.inl rfl | exact Or.inr rfl) (qe_op K ((op_add).or (op_catTK K)) (rb_else rb_add rb_catT) (qe_op K op_sub rb_sub (qv K 3) (qe_int K)) (qe_callW K 2 G_pick hr D_pick (qa_cons K (qv K 0) (qa_cons K (qv K 6) (qa_nil K))) mkF_len)))
    (qss_cons K (qs_set K (i := 12) sc_late_works.nd rfl (by first | exact Or.inl rfl | exact Or.inr rfl) (qe_callW K 2 G_pick hr D_pick (qa_cons K (qv K 0) (qa_cons K (qe_op K ((op_add).or (op_catTK K)) (rb_else rb_add rb_catT) (qv K 5) (qe_int K)) (qa_nil K))) mkF_len))
    (qss_cons K (qs_if K (qt_cmp K ((op_eq).or (op_eqDK K hr.units)) (rb_else rb_eqS rb_eqP) (qv K 9) (qe_int K))
      (qss_one K (qs_set K (i := 11) sc_late_works.nd rfl (by first | exact Or.inl rfl | exact Or.inr rfl) (qe_op K op_sub rb_sub (qe_callW K 2 G_pick hr D_pick (qa_cons K (qv K 0) (qa_cons K (qe_int K) (qa_nil K))) mkF_len) (qe_int K))))
      (qss_nil K))
    (qss_cons K (qs_if K (QW.toT (qw_and K (qt_cmp K ((op_eq).or (op_eqDK K hr.units)) (rb_else rb_eqS rb_eqP) (qv K 9) (qe_int K)) (qw_and1 K (qt_cmp K op_gt rb_gt (qv K 8) (qe_int K)))))
      (qss_one K (qs_set K (i := 11) sc_late_works.nd rfl (by first | exact Or.inl rfl | exact Or.inr rfl) (qe_ix K (qe_ix K (qe_ix K (qv K 7) (qe_callW K 2 G_pick hr D_pick (qa_cons K (qv K 0) (qa_cons K (qv K 8) (qa_nil K))) mkF_len)) (qe_int K)) (qe_int K))))
      (qss_nil K))
    (qss_cons K (qs_set K (i := 13) sc_late_works.nd rfl (by first | exact Or.inl rfl | exact Or.inr rfl) (qe_tup K (qa_cons K (qv K 10) (qa_cons K (qv K 3) (qa_cons K (qe_tup K (qa_cons K (qe_str K) (qa_cons K (qv K 11) (qa_cons K (qv K 12) (qa_nil K))))) (qa_nil K))))))
    (qss_cons K (qs_if K (QW.toT (qw_and K (qt_cmp K ((op_eq).or (op_eqDK K hr.units)) (rb_else rb_eqS rb_eqP) (qv K 9) (qe_int K)) (qw_and1 K (qt_cmp K op_gt rb_gt (qv K 8) (qe_int K)))))
      (qss_one K (qs_set K (i := 13) sc_late_works.nd rfl (by first | exact Or.inl rfl | exact Or.inr rfl) (qe_ix K (qv K 7) (qe_callW K 2 G_pick hr D_pick (qa_cons K (qv K 0) (qa_cons K (qv K 8) (qa_nil K))) mkF_len))))
      (qss_nil K))
    (qss_one K (qs_expr K (qe_mt K PySem.F.slot_list_append PySem.F.type_list_append mt_append rm_append (qv K 7) (qa_cons K (qv K 13) (qa_nil K))))))))))))))
    (qss_one K (qs_ret K (qe_ct K (call_tupleK K) (rf_1 rg_tuple) B.tuple L2.bt_tuple (qa_cons K (qv K 7) (qa_nil K))))))))))))⟩
theorem ok_far {f_far f_pick : Addr} {d_far d_pick : FuncData} (DA : DefAt K mg "_law_far" s_far f_far d_far ["_law_source_here", "_law_works"]) (D_pick : DefAt K mg "_law_pick" s_pick f_pick d_pick ["_law_source_here", "_law_many"]) (G_pick : FnOk P w K mg base CX0 1 f_pick d_pick ["_law_source_here", "_law_many"] (spF K 2 F_pick)) (B : BltA mg) : FnOk P w K mg base CX0 2 f_far d_far ["_law_source_here", "_law_works"] (spF K 2 F_far) := by
  refine ok_data (N := ["_law_source_here", "_law_works", "_law_way", "_law_days", "_law_j", "_law_found", "_law_k", "_law_length", "_law_coming", "_law_cost", "_law_later"]) (m := m_far) DA sc_far λ cdv A outer s H E hr => ?_
  exact ⟨_, (qss_cons K (qs_set K (i := 2) sc_far.nd rfl (by first | exact Or.inl rfl | exact Or.inr rfl) (qe_callW K 2 G_pick hr D_pick (qa_cons K (qv K 0) (qa_cons K (qe_int K) (qa_nil K))) mkF_len))
    (qss_cons K (qs_set K (i := 3) sc_far.nd rfl (by first | exact Or.inl rfl | exact Or.inr rfl) (qe_op K op_sub rb_sub (qe_callW K 2 G_pick hr D_pick (qa_cons K (qv K 0) (qa_cons K (qe_int K) (qa_nil K))) mkF_len) (qe_int K)))
    (qss_cons K (qs_set K (i := 4) sc_far.nd rfl (by first | exact Or.inl rfl | exact Or.inr rfl) (qe_callW K 2 G_pick hr D_pick (qa_cons K (qv K 0) (qa_cons K (qe_cb K (call_lenK K) (rf_1 rg_len) B.len L2.bt_len (qa_cons K (qv K 1) (qa_nil K))) (qa_nil K))) mkF_len))
    (qss_cons K (qs_set K (i := 5) sc_far.nd rfl (by first | exact Or.inl rfl | exact Or.inr rfl) (qe_new K (qn_lst K (qa_nil K))))
    (qss_cons K (qs_for K rfl (qi_enumT K B.enumerate (qr_tup K (qv K 1))) (qg_tup K (n := 2) rfl (qgs_cons K (qg_name K (i := 6) sc_far.nd rfl (by first | exact Or.inl rfl | exact Or.inr rfl)) (qgs_cons K (qg_tup K (n := 3) rfl (qgs_cons K (qg_name K (i := 7) sc_far.nd rfl (by first | exact Or.inl rfl | exact Or.inr rfl)) (qgs_cons K (qg_name K (i := 8) sc_far.nd rfl (by first | exact Or.inl rfl | exact Or.inr rfl)) (qgs_cons K (qg_name K (i := 9) sc_far.nd rfl (by first | exact Or.inl rfl | exact Or.inr rfl)) (qgs_nil K))))) (qgs_nil K))))
      (qss_one K (qs_if K (qt_cmp K ((op_eq).or (op_eqDK K hr.units)) (rb_else rb_eqS rb_eqP) (qv K 2) (qe_int K))
      (qss_one K (qs_expr K (qe_mt K PySem.F.slot_list_append PySem.F.type_list_append mt_append rm_append (qv K 5) (qa_cons K (qe_tup K (qa_cons K (qv K 7) (qa_cons K (qe_int K) (qa_cons K (qe_tup K (qa_cons K (qe_str K) (qa_cons K (qe_op K op_sub rb_sub (qv K 3) (qe_callW K 2 G_pick hr D_pick (qa_cons K (qv K 0) (qa_cons K (qe_int K) (qa_nil K))) mkF_len)) (qa_cons K (qe_int K) (qa_nil K))))) (qa_nil K))))) (qa_nil K)))))
      (qss_cons K (qs_set K (i := 10) sc_far.nd rfl (by first | exact Or.inl rfl | exact Or.inr rfl) (qe_ifExp K (QW.toT (qw_or K (qt_cmp K ((op_eq).or (op_eqDK K hr.units)) (rb_else rb_eqS rb_eqP) (qv K 2) (qe_int K)) (qw_or1 K (qt_cmp K ((op_eq).or (op_eqDK K hr.units)) (rb_else rb_eqS rb_eqP) (qv K 6) (qv K 4))))) (qv K 3) (qe_int K)))
    (qss_one K (qs_expr K (qe_mt K PySem.F.slot_list_append PySem.F.type_list_append mt_append rm_append (qv K 5) (qa_cons K (qe_tup K (qa_cons K (qv K 7) (qa_cons K (qv K 8) (qa_cons K (qe_tup K (qa_cons K (qe_str K) (qa_cons K (qe_op K ((op_add).or (op_catTK K)) (rb_else rb_add rb_catT) (qe_ix K (qv K 9) (qe_int K)) (qv K 10)) (qa_cons K (qe_ix K (qv K 9) (qe_int K)) (qa_nil K))))) (qa_nil K))))) (qa_nil K)))))))))
    (qss_one K (qs_ret K (qe_ct K (call_tupleK K) (rf_1 rg_tuple) B.tuple L2.bt_tuple (qa_cons K (qv K 5) (qa_nil K))))))))))⟩
theorem ok_lby_dues {f_lby_dues : Addr} {d_lby_dues : FuncData} (DA : DefAt K mg "_law_by_dues" s_lby_dues f_lby_dues d_lby_dues ["_law_works"])  (B : BltA mg) : FnOk P w K mg base CX0 1 f_lby_dues d_lby_dues ["_law_works"] (spF K 1 F_lby_dues) := by
  refine ok_data (N := ["_law_works"]) (m := m_lby_dues) DA sc_lby_dues λ cdv A outer s H E hr => ?_
  exact ⟨_, (qss_one K (qs_ret K (qe_new K (qn_comp K (loc := ["_law_pair"]) (fr := []) (ix := []) rfl ⟨rfl, by decide +kernel, rfl, rfl, rfl, by decide +kernel⟩ (qi_hid K (qn_sortedP K B.sorted (qr_hid K (qn_comp K (loc := ["_law_k"]) (fr := ["_law_works"]) (ix := [0]) rfl ⟨rfl, by decide +kernel, rfl, rfl, rfl, by decide +kernel⟩ (qi_rng1 K B.range (qa_cons K (qe_cb K (call_lenK K) (rf_1 rg_len) B.len L2.bt_len (qa_cons K (qv K 0) (qa_nil K))) (qa_nil K))) (λ _ _ _ => (qg_name K (i := 0) (show (["_law_k", "_law_works"] : List Str).Nodup from by decide +kernel) rfl (by first | exact Or.inl rfl | exact Or.inr rfl))) (λ _ _ _ => (qf_nil K)) (λ _ _ _ => (qe_tup K (qa_cons K (qe_ix K (qe_ix K (qe_ix K (qv K 1) (qv K 0)) (qe_int K)) (qe_int K)) (qa_cons K (qv K 0) (qa_nil K))))))))) (λ _ _ _ => (qg_name K (i := 0) (show (["_law_pair"] : List Str).Nodup from by decide +kernel) rfl (by first | exact Or.inl rfl | exact Or.inr rfl))) (λ _ _ _ => (qf_nil K)) (λ _ _ _ => (qe_ix K (qv K 0) (qe_int K)))))))⟩
theorem ok_sets {f_sets f_lby_dues : Addr} {d_sets d_lby_dues : FuncData} (DA : DefAt K mg "_law_sets" s_sets f_sets d_sets ["_law_works"]) (D_lby_dues : DefAt K mg "_law_by_dues" s_lby_dues f_lby_dues d_lby_dues ["_law_works"]) (G_lby_dues : FnOk P w K mg base CX0 1 f_lby_dues d_lby_dues ["_law_works"] (spF K 1 F_lby_dues)) (B : BltA mg) : FnOk P w K mg base CX0 2 f_sets d_sets ["_law_works"] (spF K 1 F_sets) := by
  refine ok_data (N := ["_law_works", "_law_found", "_law_row", "_law_k", "_law_length", "_law_coming", "_law_cost", "_law_fitting"]) (m := m_sets) DA sc_sets λ cdv A outer s H E hr => ?_
  exact ⟨_, (qss_cons K (qs_set K (i := 1) sc_sets.nd rfl (by first | exact Or.inl rfl | exact Or.inr rfl) (qe_new K (qn_lst K (qa_cons K (qe_tup K (qa_cons K (qe_int K) (qa_cons K (qe_int K) (qa_cons K (qe_ix K (qe_ix K (qv K 0) (qe_int K)) (qe_int K)) (qa_cons K (qe_new K (qn_lst K (qa_nil K))) (qa_nil K)))))) (qa_nil K)))))
    (qss_cons K (qs_for K rfl (qi_enum K B.enumerate (qr_list K (qe_callW K 0 G_lby_dues hr D_lby_dues (qa_cons K (qv K 0) (qa_nil K)) mkF_len))) (qg_tup K (n := 2) rfl (qgs_cons K (qg_name K (i := 2) sc_sets.nd rfl (by first | exact Or.inl rfl | exact Or.inr rfl)) (qgs_cons K (qg_name K (i := 3) sc_sets.nd rfl (by first | exact Or.inl rfl | exact Or.inr rfl)) (qgs_nil K))))
      (qss_cons K (qs_asg K (qe_ix K (qv K 0) (qv K 3)) (qg_tup K (n := 3) rfl (qgs_cons K (qg_name K (i := 4) sc_sets.nd rfl (by first | exact Or.inl rfl | exact Or.inr rfl)) (qgs_cons K (qg_name K (i := 5) sc_sets.nd rfl (by first | exact Or.inl rfl | exact Or.inr rfl)) (qgs_cons K (qg_name K (i := 6) sc_sets.nd rfl (by first | exact Or.inl rfl | exact Or.inr rfl)) (qgs_nil K))))))
    (qss_cons K (by first | exact qs_setC K (i := 7) (loc := ["_law_one"]) (fr := ["_law_length", "_law_cost"]) (ix := [4, 6]) sc_sets.nd rfl rfl rfl ⟨rfl, by decide +kernel, rfl, rfl, rfl, by decide +kernel⟩ (qi_list K (qv K 1)) (λ _ _ _ => (qg_name K (i := 0) (show (["_law_one", "_law_length", "_law_cost"] : List Str).Nodup from by decide +kernel) rfl (by first | exact Or.inl rfl | exact Or.inr rfl))) (λ _ _ _ => (qf_one K (qt_cmp K op_le rb_le (qe_op K ((op_add).or (op_catTK K)) (rb_else rb_add rb_catT) (qe_ix K (qv K 0) (qe_int K)) (qv K 1)) (qe_ix K (qv K 2) (qe_int K))))) (λ _ _ _ => (qv K 0)) | exact qs_set K (i := 7) sc_sets.nd rfl (by first | exact Or.inl rfl | exact Or.inr rfl) (qe_new K (qn_comp K (loc := ["_law_one"]) (fr := ["_law_length", "_law_cost"]) (ix := [4, 6]) rfl ⟨rfl, by decide +kernel, rfl, rfl, rfl, by decide +kernel⟩ (qi_list K (qv K 1)) (λ _ _ _ => (qg_name K (i := 0) (show (["_law_one", "_law_length", "_law_cost"] : List Str).Nodup from by decide +kernel) rfl (by first | exact Or.inl rfl | exact Or.inr rfl))) (λ _ _ _ => (qf_one K (qt_cmp K op_le rb_le (qe_op K ((op_add).or (op_catTK K)) (rb_else rb_add rb_catT) (qe_ix K (qv K 0) (qe_int K)) (qv K 1)) (qe_ix K (qv K 2) (qe_int K))))) (λ _ _ _ => (qv K 0)))))
    (qss_one K (qs_set K (i := 1) sc_sets.nd rfl (by first | exact Or.inl rfl | exact Or.inr rfl) (qe_new K (qn_cat K (qv K 1) (qe_new K (qn_comp K (loc := ["_law_one"]) (fr := ["_law_row", "_law_cost", "_law_length", "_law_k"]) (ix := [2, 6, 4, 3]) rfl ⟨rfl, by decide +kernel, rfl, rfl, rfl, by decide +kernel⟩ (qi_list K (qv K 7)) (λ _ _ _ => (qg_name K (i := 0) (show (["_law_one", "_law_row", "_law_cost", "_law_length", "_law_k"] : List Str).Nodup from by decide +kernel) rfl (by first | exact Or.inl rfl | exact Or.inr rfl))) (λ _ _ _ => (qf_nil K)) (λ _ _ _ => (qe_tup K (qa_cons K (qe_op K ((op_add).or (op_catTK K)) (rb_else rb_add rb_catT) (qv K 1) (qe_int K)) (qa_cons K (qe_op K ((op_add).or (op_catTK K)) (rb_else rb_add rb_catT) (qe_ix K (qv K 0) (qe_int K)) (qe_ix K (qv K 2) (qe_int K))) (qa_cons K (qe_op K ((op_add).or (op_catTK K)) (rb_else rb_add rb_catT) (qe_ix K (qv K 0) (qe_int K)) (qv K 3)) (qa_cons K (qe_new K (qn_cat K (qe_ix K (qv K 0) (qe_int K)) (qe_new K (qn_lst K (qa_cons K (qv K 4) (qa_nil K)))))) (qa_nil K))))))))))))))))
    (qss_one K (qs_ret K (qv K 1)))))⟩
theorem ok_is_set {f_is_set : Addr} {d_is_set : FuncData} (DA : DefAt K mg "_law_is_set" s_is_set f_is_set d_is_set ["_law_many", "_law_some"])  (B : BltA mg) : FnOk P w K mg base CX0 1 f_is_set d_is_set ["_law_many", "_law_some"] (spF K 2 F_is_set) := by
  refine ok_data (N := ["_law_many", "_law_some", "_law_at", "_law_k"]) (m := m_is_set) DA sc_is_set λ cdv A outer s H E hr => ?_
  exact ⟨_, (qss_cons K (qs_if K (qt_not K (qt_truth K (qe_isi K .tuple B.isinstance B.tuple (qv K 1))))
      (qss_one K (qs_ret K (qe_bl K)))
      (qss_nil K))
    (qss_cons K (qs_for K rfl (qi_enumT K B.enumerate (qr_tup K (qv K 1))) (qg_tup K (n := 2) rfl (qgs_cons K (qg_name K (i := 2) sc_is_set.nd rfl (by first | exact Or.inl rfl | exact Or.inr rfl)) (qgs_cons K (qg_name K (i := 3) sc_is_set.nd rfl (by first | exact Or.inl rfl | exact Or.inr rfl)) (qgs_nil K))))
      (qss_one K (qs_if K (QW.toT (qw_or K (qt_not K (qt_truth K (qe_isi K .int B.isinstance B.int (qv K 3)))) (qw_or K (qt_truth K (qe_isi K .bool B.isinstance B.bool (qv K 3))) (qw_or K (qt_cmp K op_lt rb_lt (qv K 3) (qe_int K)) (qw_or K (qt_cmp K op_ge rb_ge (qv K 3) (qv K 0)) (qw_or1 K (QW.toT (qw_and K (qt_cmp K op_gt rb_gt (qv K 2) (qe_int K)) (qw_and1 K (qt_cmp K op_ge rb_ge (qe_ix K (qv K 1) (qe_op K op_sub rb_sub (qv K 2) (qe_int K))) (qv K 3)))))))))))
      (qss_one K (qs_ret K (qe_bl K)))
      (qss_nil K))))
    (qss_one K (qs_ret K (qe_bl K)))))⟩
theorem ok_end_in_time {f_end_in_time f_lby_dues : Addr} {d_end_in_time d_lby_dues : FuncData} (DA : DefAt K mg "_law_end_in_time" s_end_in_time f_end_in_time d_end_in_time ["_law_works", "_law_some"]) (D_lby_dues : DefAt K mg "_law_by_dues" s_lby_dues f_lby_dues d_lby_dues ["_law_works"]) (G_lby_dues : FnOk P w K mg base CX0 1 f_lby_dues d_lby_dues ["_law_works"] (spF K 1 F_lby_dues)) (B : BltA mg) : FnOk P w K mg base CX0 2 f_end_in_time d_end_in_time ["_law_works", "_law_some"] (spF K 2 F_end_in_time) := by
  refine ok_data (N := ["_law_works", "_law_some", "_law_end", "_law_k"]) (m := m_end_in_time) DA sc_end_in_time λ cdv A outer s H E hr => ?_
  exact ⟨_, (qss_cons K (qs_set K (i := 2) sc_end_in_time.nd rfl (by first | exact Or.inl rfl | exact Or.inr rfl) (qe_ix K (qe_ix K (qv K 0) (qe_int K)) (qe_int K)))
    (qss_cons K (qs_for K rfl (qi_list K (qe_callW K 0 G_lby_dues hr D_lby_dues (qa_cons K (qv K 0) (qa_nil K)) mkF_len)) (qg_name K (i := 3) sc_end_in_time.nd rfl (by first | exact Or.inl rfl | exact Or.inr rfl))
      (qss_one K (qs_if K (qt_cmp K (op_inK K) rb_in (qv K 3) (qv K 1))
      (qss_cons K (qs_set K (i := 2) sc_end_in_time.nd rfl (by first | exact Or.inl rfl | exact Or.inr rfl) (qe_op K ((op_add).or (op_catTK K)) (rb_else rb_add rb_catT) (qv K 2) (qe_ix K (qe_ix K (qv K 0) (qv K 3)) (qe_int K))))
    (qss_one K (qs_if K (qt_cmp K op_gt rb_gt (qv K 2) (qe_ix K (qe_ix K (qe_ix K (qv K 0) (qv K 3)) (qe_int K)) (qe_int K)))
      (qss_one K (qs_ret K (qe_non K)))
      (qss_nil K))))
      (qss_nil K))))
    (qss_one K (qs_ret K (qv K 2)))))⟩
theorem ok_told_so {f_told_so f_in_time f_is_set f_end_in_time : Addr} {d_told_so d_in_time d_is_set d_end_in_time : FuncData} (DA : DefAt K mg "_law_told_so" s_told_so f_told_so d_told_so ["_law_works", "_law_weight", "_law_ends"]) (D_in_time : DefAt K mg "in_time" s_in_time f_in_time d_in_time ["works", "w"]) (G_in_time : FnOk P w K mg base CX0 6 f_in_time d_in_time ["works", "w"] (spF K 2 F_in_time)) (D_is_set : DefAt K mg "_law_is_set" s_is_set f_is_set d_is_set ["_law_many", "_law_some"]) (G_is_set : FnOk P w K mg base CX0 1 f_is_set d_is_set ["_law_many", "_law_some"] (spF K 2 F_is_set)) (D_end_in_time : DefAt K mg "_law_end_in_time" s_end_in_time f_end_in_time d_end_in_time ["_law_works", "_law_some"]) (G_end_in_time : FnOk P w K mg base CX0 2 f_end_in_time d_end_in_time ["_law_works", "_law_some"] (spF K 2 F_end_in_time)) (B : BltA mg) : FnOk P w K mg base CX0 7 f_told_so d_told_so ["_law_works", "_law_weight", "_law_ends"] (spF K 3 F_told_so) := by
  refine ok_data (N := ["_law_works", "_law_weight", "_law_ends", "_law_told"]) (m := m_told_so) DA sc_told_so λ cdv A outer s H E hr => ?_
  exact ⟨_, (qss_cons K (qs_set K (i := 3) sc_told_so.nd rfl (by first | exact Or.inl rfl | exact Or.inr rfl) (qe_callW K 0 G_in_time hr D_in_time (qa_cons K (qv K 0) (qa_cons K (qv K 1) (qa_nil K))) mkF_len))
    (qss_cons K (qs_if K (qt_eqEN K (op_eqH K hr.units) (qv K 2) (qn_lst K (qa_nil K)))
      (qss_one K (qs_ret K (qe_isN K (qv K 3))))
      (qss_nil K))
    (qss_cons K (qs_if K (QW.toT (qw_or K (qt_not K (qt_truth K (qe_callW K 0 G_is_set hr D_is_set (qa_cons K (qe_cb K (call_lenK K) (rf_1 rg_len) B.len L2.bt_len (qa_cons K (qv K 0) (qa_nil K))) (qa_cons K (qv K 3) (qa_nil K))) mkF_len))) (qw_or1 K (qt_cmp K ((op_ne).or (op_neDK K hr.units)) (rb_else rb_neS rb_neP) (qe_hb K ((call_sumK K rfl).or (call_sumTK K rfl)) rg_sum B.sum L2.bt_sum (qn_comp K (loc := ["_law_k"]) (fr := ["_law_works"]) (ix := [0]) rfl ⟨rfl, by decide +kernel, rfl, rfl, rfl, by decide +kernel⟩ (qi_tup K (qv K 3)) (λ _ _ _ => (qg_name K (i := 0) (show (["_law_k", "_law_works"] : List Str).Nodup from by decide +kernel) rfl (by first | exact Or.inl rfl | exact Or.inr rfl))) (λ _ _ _ => (qf_nil K)) (λ _ _ _ => (qe_ix K (qe_ix K (qe_ix K (qv K 1) (qv K 0)) (qe_int K)) (qe_int K))))) (qv K 1)))))
      (qss_one K (qs_ret K (qe_bl K)))
      (qss_nil K))
    (qss_one K (qs_ret K (qe_cmp K ((op_eq).or (op_eqDK K hr.units)) (rb_else rb_eqS rb_eqP) (qe_callW K 0 G_end_in_time hr D_end_in_time (qa_cons K (qv K 0) (qa_cons K (qv K 3) (qa_nil K))) mkF_len) (qe_cb K (call_minK K rfl) (rf_1 rg_min) B.min L2.bt_min (qa_cons K (qv K 2) (qa_nil K)))))))))⟩
theorem ok_law {f_law f_source f_pick f_late_works f_far f_sets f_told_so : Addr} {d_law d_source d_pick d_late_works d_far d_sets d_told_so : FuncData} (DA : DefAt K mg "law" s_law f_law d_law ["_law_script"]) (D_source : DefAt K mg "_law_source" s_source f_source d_source ["_law_script"]) (G_source : FnOk P w K mg base CX0 1 f_source d_source ["_law_script"] (spF K 1 F_source)) (D_pick : DefAt K mg "_law_pick" s_pick f_pick d_pick ["_law_source_here", "_law_many"]) (G_pick : FnOk P w K mg base CX0 1 f_pick d_pick ["_law_source_here", "_law_many"] (spF K 2 F_pick)) (D_late_works : DefAt K mg "_law_late_works" s_late_works f_late_works d_late_works ["_law_source_here", "_law_most"]) (G_late_works : FnOk P w K mg base CX0 2 f_late_works d_late_works ["_law_source_here", "_law_most"] (spF K 2 F_late_works)) (D_far : DefAt K mg "_law_far" s_far f_far d_far ["_law_source_here", "_law_works"]) (G_far : FnOk P w K mg base CX0 2 f_far d_far ["_law_source_here", "_law_works"] (spF K 2 F_far)) (D_sets : DefAt K mg "_law_sets" s_sets f_sets d_sets ["_law_works"]) (G_sets : FnOk P w K mg base CX0 2 f_sets d_sets ["_law_works"] (spF K 1 F_sets)) (D_told_so : DefAt K mg "_law_told_so" s_told_so f_told_so d_told_so ["_law_works", "_law_weight", "_law_ends"]) (G_told_so : FnOk P w K mg base CX0 7 f_told_so d_told_so ["_law_works", "_law_weight", "_law_ends"] (spF K 3 F_told_so)) (B : BltA mg) : FnOk P w K mg base CX0 8 f_law d_law ["_law_script"] (spF K 1 F_law) := by
  refine ok_data (N := ["_law_script", "_law_source_here", "_law_most", "_law_works", "_law_full", "_law_asked", "_law_some", "_law_sets_here", "_law_weight"]) (m := m_law) DA sc_law λ cdv A outer s H E hr => ?_
  exact ⟨_, (qss_cons K (qs_set K (i := 1) sc_law.nd rfl (by first | exact Or.inl rfl | exact Or.inr rfl) (qe_callG K G_source hr D_source (qa_cons K (qv K 0) (qa_nil K)) mkF_len))
    (qss_cons K (qs_set K (i := 2) sc_law.nd rfl (by first | exact Or.inl rfl | exact Or.inr rfl) (qe_ixH K (qn_lst K (qa_cons K (qe_int K) (qa_cons K (qe_int K) (qa_cons K (qe_int K) (qa_nil K))))) (qe_callW K 2 G_pick hr D_pick (qa_cons K (qv K 1) (qa_cons K (qe_int K) (qa_nil K))) mkF_len)))
    (qss_cons K (qs_set K (i := 3) sc_law.nd rfl (by first | exact Or.inl rfl | exact Or.inr rfl) (qe_callW K 2 G_late_works hr D_late_works (qa_cons K (qv K 1) (qa_cons K (qv K 2) (qa_nil K))) mkF_len))
    (qss_cons K (qs_set K (i := 4) sc_law.nd rfl (by first | exact Or.inl rfl | exact Or.inr rfl) (qe_hb K ((call_sumK K rfl).or (call_sumTK K rfl)) rg_sum B.sum L2.bt_sum (qn_comp K (loc := ["_law_work"]) (fr := []) (ix := []) rfl ⟨rfl, by decide +kernel, rfl, rfl, rfl, by decide +kernel⟩ (qi_tup K (qv K 3)) (λ _ _ _ => (qg_name K (i := 0) (show (["_law_work"] : List Str).Nodup from by decide +kernel) rfl (by first | exact Or.inl rfl | exact Or.inr rfl))) (λ _ _ _ => (qf_nil K)) (λ _ _ _ => (qe_ix K (qe_ix K (qv K 0) (qe_int K)) (qe_int K))))))
    (qss_cons K (by first | exact qs_setC K (i := 5) (loc := ["_law_k"]) (fr := ["_law_source_here", "_law_full"]) (ix := [1, 4]) sc_law.nd rfl rfl rfl ⟨rfl, by decide +kernel, rfl, rfl, rfl, by decide +kernel⟩ (qi_rng1 K B.range (qa_cons K (qe_int K) (qa_nil K))) (λ _ _ _ => (qg_name K (i := 0) (show (["_law_k", "_law_source_here", "_law_full"] : List Str).Nodup from by decide +kernel) rfl (by first | exact Or.inl rfl | exact Or.inr rfl))) (λ _ _ _ => (qf_nil K)) (λ _ _ _ => (qe_op K op_sub rb_sub (qe_callW K 2 G_pick hr D_pick (qa_cons K (qv K 1) (qa_cons K (qe_op K ((op_add).or (op_catTK K)) (rb_else rb_add rb_catT) (qv K 2) (qe_int K)) (qa_nil K))) mkF_len) (qe_int K))) | exact qs_set K (i := 5) sc_law.nd rfl (by first | exact Or.inl rfl | exact Or.inr rfl) (qe_new K (qn_comp K (loc := ["_law_k"]) (fr := ["_law_source_here", "_law_full"]) (ix := [1, 4]) rfl ⟨rfl, by decide +kernel, rfl, rfl, rfl, by decide +kernel⟩ (qi_rng1 K B.range (qa_cons K (qe_int K) (qa_nil K))) (λ _ _ _ => (qg_name K (i := 0) (show (["_law_k", "_law_source_here", "_law_full"] : List Str).Nodup from by decide +kernel) rfl (by first | exact Or.inl rfl | exact Or.inr rfl))) (λ _ _ _ => (qf_nil K)) (λ _ _ _ => (qe_op K op_sub rb_sub (qe_callW K 2 G_pick hr D_pick (qa_cons K (qv K 1) (qa_cons K (qe_op K ((op_add).or (op_catTK K)) (rb_else rb_add rb_catT) (qv K 2) (qe_int K)) (qa_nil K))) mkF_len) (qe_int K))))))
    (qss_cons K (qs_expr K (qe_mt K PySem.F.slot_list_append PySem.F.type_list_append mt_append rm_append (qv K 5) (qa_cons K (qe_ixH K (qn_lst K (qa_cons K (qe_neg K (qe_int K)) (qa_cons K (qe_int K) (qa_cons K (qv K 4) (qa_nil K))))) (qe_callW K 2 G_pick hr D_pick (qa_cons K (qv K 1) (qa_cons K (qe_int K) (qa_nil K))) mkF_len)) (qa_nil K))))
    (qss_cons K (qs_for K rfl (qi_tup K (qe_tup K (qa_cons K (qv K 3) (qa_cons K (qe_callW K 2 G_far hr D_far (qa_cons K (qv K 1) (qa_cons K (qv K 3) (qa_nil K))) mkF_len) (qa_nil K))))) (qg_name K (i := 6) sc_law.nd rfl (by first | exact Or.inl rfl | exact Or.inr rfl))
      (qss_cons K (qs_set K (i := 7) sc_law.nd rfl (by first | exact Or.inl rfl | exact Or.inr rfl) (qe_callG K G_sets hr D_sets (qa_cons K (qv K 6) (qa_nil K)) mkF_len))
    (qss_one K (qs_for K rfl (qi_list K (qv K 5)) (qg_name K (i := 8) sc_law.nd rfl (by first | exact Or.inl rfl | exact Or.inr rfl))
      (qss_one K (qs_if K (qt_not K (qt_truth K (qe_callG K G_told_so hr D_told_so (qa_cons K (qv K 6) (qa_cons K (qv K 8) (qa_cons K (qe_new K (qn_comp K (loc := ["_law_one"]) (fr := ["_law_weight"]) (ix := [8]) rfl ⟨rfl, by decide +kernel, rfl, rfl, rfl, by decide +kernel⟩ (qi_list K (qv K 7)) (λ _ _ _ => (qg_name K (i := 0) (show (["_law_one", "_law_weight"] : List Str).Nodup from by decide +kernel) rfl (by first | exact Or.inl rfl | exact Or.inr rfl))) (λ _ _ _ => (qf_one K (qt_cmp K ((op_eq).or (op_eqDK K hr.units)) (rb_else rb_eqS rb_eqP) (qe_ix K (qv K 0) (qe_int K)) (qv K 1)))) (λ _ _ _ => (qe_ix K (qv K 0) (qe_int K))))) (qa_nil K)))) mkF_len)))
      (qss_one K (qs_ret K (qe_bl K)))
      (qss_nil K)))))))
    (qss_one K (qs_ret K (qe_bl K))))))))))⟩
end
end T39
namespace Bd
open PySem L2
end Bd
namespace Rw
open PySem L2 Bd
end Rw
namespace L2
open PySem PySem.Spec PyProof.Rows
section
variable {hd : Hd} {QE : D -> Hd -> Prop} {d : D}
end
end L2
namespace T39
open PySem L2 Bd
structure Sp where
  cells : List Int
  a : Int
  rs : Int
  cn : Int
def srcD (t : Sp) : List (Key × D) := [(.inr "cells", .mu 0), (.inr "at", .im (.int t.a)), (.inr "rest", .im (.int t.rs)), (.inr "count", .im (.int t.cn))]
def sp (t : Sp) : Hd := [.lst (t.cells.map λ i => .im (.int i)), .dic (srcD t)]
@[simp] theorem sp0 (t : Sp) : (sp t)[0]? = some (.lst (t.cells.map λ i => .im (.int i))) := rfl
@[simp] theorem sp1 (t : Sp) : (sp t)[1]? = some (.dic (srcD t)) := rfl
@[simp] theorem spset (t t' : Sp) (h : t'.cells = t.cells) : (sp t).set 1 (.dic (srcD t')) = sp t' := by unfold sp; rw [h]; rfl
theorem k_cells_at : (("cells" : Str) = "at") = False := by simp [eq_iff_iff]; decide
theorem k_cells_rest : (("cells" : Str) = "rest") = False := by simp [eq_iff_iff]; decide
theorem k_cells_count : (("cells" : Str) = "count") = False := by simp [eq_iff_iff]; decide
theorem k_at_cells : (("at" : Str) = "cells") = False := by simp [eq_iff_iff]; decide
theorem k_at_rest : (("at" : Str) = "rest") = False := by simp [eq_iff_iff]; decide
theorem k_at_count : (("at" : Str) = "count") = False := by simp [eq_iff_iff]; decide
theorem k_rest_cells : (("rest" : Str) = "cells") = False := by simp [eq_iff_iff]; decide
theorem k_rest_at : (("rest" : Str) = "at") = False := by simp [eq_iff_iff]; decide
theorem k_rest_count : (("rest" : Str) = "count") = False := by simp [eq_iff_iff]; decide
theorem k_count_cells : (("count" : Str) = "cells") = False := by simp [eq_iff_iff]; decide
theorem k_count_at : (("count" : Str) = "at") = False := by simp [eq_iff_iff]; decide
theorem k_count_rest : (("count" : Str) = "rest") = False := by simp [eq_iff_iff]; decide
section
variable (t : Sp) (v : Int)
@[simp] theorem sd_cells : valD (srcD t) (.inr "cells") = some (.mu 0) := by simp [valD, srcD]
@[simp] theorem sd_at : valD (srcD t) (.inr "at") = some (.im (.int t.a)) := by simp [valD, srcD, k_cells_at, k_cells_rest, k_cells_count, k_at_cells, k_at_rest, k_at_count, k_rest_cells, k_rest_at, k_rest_count, k_count_cells, k_count_at, k_count_rest]
@[simp] theorem sd_rest : valD (srcD t) (.inr "rest") = some (.im (.int t.rs)) := by simp [valD, srcD, k_cells_at, k_cells_rest, k_cells_count, k_at_cells, k_at_rest, k_at_count, k_rest_cells, k_rest_at, k_rest_count, k_count_cells, k_count_at, k_count_rest]
@[simp] theorem sd_count : valD (srcD t) (.inr "count") = some (.im (.int t.cn)) := by simp [valD, srcD, k_cells_at, k_cells_rest, k_cells_count, k_at_cells, k_at_rest, k_at_count, k_rest_cells, k_rest_at, k_rest_count, k_count_cells, k_count_at, k_count_rest]
@[simp] theorem sd_pat : putD (srcD t) (.inr "at") (.im (.int v)) = srcD { t with a := v } := by simp [putD, srcD, k_cells_at, k_cells_rest, k_cells_count, k_at_cells, k_at_rest, k_at_count, k_rest_cells, k_rest_at, k_rest_count, k_count_cells, k_count_at, k_count_rest]
@[simp] theorem sd_prest : putD (srcD t) (.inr "rest") (.im (.int v)) = srcD { t with rs := v } := by simp [putD, srcD, k_cells_at, k_cells_rest, k_cells_count, k_at_cells, k_at_rest, k_at_count, k_rest_cells, k_rest_at, k_rest_count, k_count_cells, k_count_at, k_count_rest]
@[simp] theorem sd_pcount : putD (srcD t) (.inr "count") (.im (.int v)) = srcD { t with cn := v } := by simp [putD, srcD, k_cells_at, k_cells_rest, k_cells_count, k_at_cells, k_at_rest, k_at_count, k_rest_cells, k_rest_at, k_rest_count, k_count_cells, k_count_at, k_count_rest]
@[simp] theorem sd_len : (srcD t).length = 4 := rfl
end
theorem o1 : modOk 1073741827 := by unfold modOk; decide
theorem o2 : modOk 2147483543 := by unfold modOk; decide
theorem o3 : modOk 2147483497 := by unfold modOk; decide
theorem o4 : divOk 256 := by unfold divOk; decide
theorem o5 (j : Int) : mulOk 611953 j := mulOk_l (by decide) (by decide)
theorem o6 (j : Int) : mulOk 3 j := mulOk_l (by decide) (by decide)
theorem o7 (j : Int) : mulOk 69069 j := mulOk_l (by decide) (by decide)
def mx1 (c n : Int) : Int := c % 1073741827 + 611953 * n
def mx2 (x n : Int) : Int := (x * x + 3 * n + 7) % 2147483543
def mx3 (x n : Int) : Int := (x * x + 69069 * n + 1) % 2147483497
theorem pick_eq (τ : Sp) (many : Int) (h0 : 0 < many) (h1 : many < 1073741824) (n0 : 0 <= τ.cn) (n1 : τ.cn <= 100000) : ∃ r τ', F_pick [.mu 1, .im (.int many)] (sp τ) = some (.im (.int r), sp τ') /\ 0 <= r /\ r < many /\ τ'.cn = τ.cn + 1 := by
  have hm : modOk many := h0
  have hv : divOk many := ⟨h0, h1⟩
  by_cases hl : τ.rs > 0
  . refine ⟨τ.rs % many, { τ with cn := τ.cn + 1, rs := τ.rs / many }, ?_, (modlt many h0).1, (modlt many h0).2, rfl⟩
    simp [F_pick, mkF, hl, hm, hv]
  . have key : ∀ cell : Int, (if τ.cells = [] then cell = 11 else atI (τ.cells.map λ i => D.im (.int i)) (τ.a % (τ.cells.length : Int)) = some (.im (.int cell))) ->
        ∃ r τ', F_pick [.mu 1, .im (.int many)] (sp τ) = some (.im (.int r), sp τ') /\ 0 <= r /\ r < many /\ τ'.cn = τ.cn + 1 := by
      intro cell hcell
      have b1 := modlt (x := cell) 1073741827 (by decide)
      have b2 := modlt (x := mx1 cell (τ.cn + 1) * mx1 cell (τ.cn + 1) + 3 * (τ.cn + 1) + 7) 2147483543 (by decide)
      have c1 : ∀ j, mulOk (mx1 cell (τ.cn + 1)) j := λ j => mulOk_l (by unfold mx1; omega) (by unfold mx1; omega)
      have c2 : ∀ j, mulOk (mx2 (mx1 cell (τ.cn + 1)) (τ.cn + 1)) j := λ j => mulOk_l (by unfold mx2; omega) (by unfold mx2; omega)
      by_cases hb : cell >= 1000000000000000000 /\ τ.a + 1 <= (τ.cells.length : Int)
      . refine ⟨cell % many, { τ with cn := τ.cn + 1, a := τ.a + 1, rs := cell / many }, ?_, (modlt many h0).1, (modlt many h0).2, rfl⟩
        by_cases hc : τ.cells = []
        . rw [if_pos hc] at hcell; subst hcell; omega
        . rw [if_neg hc] at hcell
          have hl0 : 0 < τ.cells.length := len_pos hc
          have hl0' : modOk (τ.cells.length : Int) := by unfold modOk; omega
          simp [F_pick, mkF, hl, hm, hv, o1, o2, o3, o4, o5, o6, o7, po1, mEqEN, pyD, allIm_ints, pys_ints, I.pys, cmp_nil, hc, hcell, hl0', hb.1, hb.2, kLen]
      . refine ⟨mx3 (mx2 (mx1 cell (τ.cn + 1)) (τ.cn + 1)) (τ.cn + 1) / 256 % many, { τ with cn := τ.cn + 1, a := τ.a + 1 }, ?_, (modlt many h0).1, (modlt many h0).2, rfl⟩
        have hb' : 1000000000000000000 <= cell -> ¬ τ.a + 1 <= (τ.cells.length : Int) := λ a b => hb ⟨a, b⟩
        unfold mx1 at c1 c2
        unfold mx2 at c2
        unfold mx3 mx2 mx1
        by_cases hc : τ.cells = []
        . rw [if_pos hc] at hcell; subst hcell
          simp only [Int.reduceMod] at c1 c2
          simp [F_pick, mkF, hl, hm, hv, o1, o2, o3, o4, o5, o6, o7, po1, mEqEN, pyD, allIm_ints, pys_ints, I.pys, cmp_nil, cmp_nn, hc, kLen, c1, c2]
        . rw [if_neg hc] at hcell
          have hl0 : 0 < τ.cells.length := len_pos hc
          have hl0' : modOk (τ.cells.length : Int) := by unfold modOk; omega
          by_cases hd : 1000000000000000000 <= cell
          . simp [F_pick, mkF, hl, hm, hv, o1, o2, o3, o4, o5, o6, o7, po1, mEqEN, pyD, allIm_ints, pys_ints, I.pys, cmp_nil, hc, hcell, hl0', kLen, c1, c2, hd, hb' hd]
          . simp [F_pick, mkF, hl, hm, hv, o1, o2, o3, o4, o5, o6, o7, po1, mEqEN, pyD, allIm_ints, pys_ints, I.pys, cmp_nil, hc, hcell, hl0', kLen, c1, c2, hd]
    by_cases hc : τ.cells = []
    . exact key 11 (by rw [if_pos hc])
    . obtain ⟨c, e⟩ := atmod hc τ.a
      exact key c (by rw [if_neg hc]; exact e)
def T (k : Nat) (a b : MO) : Prop := ∃ τ : Sp, 0 <= τ.cn /\ τ.cn + k <= 100000 /\ sp τ = [a, b]
theorem tap : Tap T F_pick where
  cl := by
    rintro k a b ⟨τ, _, _, e⟩
    cases e
    simp [clO, clDs_ints, srcD, clKs, clD]
  le := by
    rintro j k a b ⟨τ, h1, h2, e⟩ h
    exact ⟨τ, h1, by omega, e⟩
  pick := by
    rintro k a b many ⟨τ, n0, n1, e⟩ h0 h1
    obtain ⟨r, τ', eq, p1, p2, c⟩ := pick_eq τ many h0 h1 n0 (by push_cast at n1; omega)
    refine ⟨r, .lst (τ'.cells.map λ i => .im (.int i)), .dic (srcD τ'), p1, p2, ?_, τ', by omega, by push_cast at n1; omega, rfl⟩
    rw [<- e]
    exact eq
theorem source_w (ns : List Int) : WF F_source [.ro ns] [] λ d x => d = .mu 1 /\ ∃ a b, T 90000 a b /\ x = [a, b] := by
  obtain ⟨cs, e⟩ := cut_ints ns none (some 63)
  exact ⟨.mu 1, _, by simp [F_source, mkF, e, mergeD, putD, k_cells_at, k_cells_rest, k_cells_count, k_at_cells, k_at_rest, k_at_count, k_rest_cells, k_rest_at, k_rest_count, k_count_cells, k_count_at, k_count_rest]; rfl, rfl, _, _, ⟨⟨cs, 0, 0, 0⟩, (show (0 : Int) <= 0 by decide), (show (0 : Int) + (90000 : Nat) <= 100000 by decide), rfl⟩, rfl⟩
structure Wm where
  len : Int
  com : Int
  due : Int
  wt : Int
def wmI (w : Wm) : I := .tup [.int w.len, .int w.com, .tup [.str "miss", .int w.due, .int w.wt]]
abbrev wmD (w : Wm) : D := .im (wmI w)
abbrev wmsI (ws : List Wm) : I := .tup (ws.map wmI)
theorem im_wms (ws : List Wm) : (ws.map wmI).map D.im = ws.map wmD := by rw [List.map_map]; rfl
def okM (B c : Int) (w : Wm) : Prop := (1 <= w.len /\ w.len <= 20) /\ w.com = c /\ (-B <= w.due /\ w.due <= B) /\ 0 <= w.wt /\ w.wt <= 9
def okMs (B c : Int) (ws : List Wm) : Prop := ws ≠ [] /\ ws.length <= 8 /\ (0 <= c /\ c <= 60) /\ ∀ w ∈ ws, okM B c w
theorem at3 {r : Int} (h0 : 0 <= r) (h1 : r < 3) (x y z : D) : ∃ d, (d = x ∨ d = y ∨ d = z) /\ atI [x, y, z] r = some d := by
  have : r = 0 ∨ r = 1 ∨ r = 2 := by omega
  rcases this with rfl | rfl | rfl
  . exact ⟨x, .inl rfl, atI_nat (j := 0) rfl⟩
  . exact ⟨y, .inr (.inl rfl), atI_nat (j := 1) rfl⟩
  . exact ⟨z, .inr (.inr rfl), atI_nat (j := 2) rfl⟩
abbrev Lw (mo c lo hv sp : Int) (m : Int) (z8 z9 z10 z11 z12 z13 : Option D) : Ls := [some (.mu 1), some (.im (.int mo)), some (.im (.int m)), some (.im (.int c)), some (.im (.int lo)), some (.im (.int hv)), some (.im (.int sp)), some (.mu 2), z8, z9, z10, z11, z12, z13]
theorem late_works_w (n : Nat) {mo : Int} (h8 : 1 <= mo /\ mo <= 8) : ∀ a b, T (n + 100) a b -> WF F_late_works [.mu 1, .im (.int mo)] [a, b] λ d x => ∃ i a' b' g, d = .im i /\ (∃ ws c, i = wmsI ws /\ okMs 500 c ws) /\ T n a' b' /\ x = a' :: b' :: g := by
  intro a b hT
  unfold F_late_works
  refine wf_mk rfl ?_
  refine ws_seq (ws_set (we_op (we_c ?_)))
  refine tap.draw hT rfl (by first | decide | omega) (by first | decide | omega) λ m a b hT pm qm => ?_
  refine wp_add (thenS_nx (ws_seq (ws_set ?_)))
  refine tap.draw hT rfl (by first | decide | omega) (by first | decide | omega) λ c a b hT pc qc => ?_
  refine thenS_nx (ws_seq (ws_set (we_ixH (wa_lst (wa_cons (we_c (wa_cons (we_c (wa_cons (we_c (wa_nil ⟨fits_3, ?_⟩)))))))))))
  refine tap.draw hT rfl (by first | decide | omega) (by first | decide | omega) λ r2 a b hT pr2 qr2 => ?_
  obtain ⟨d2, hd2, ed2⟩ := at3 pr2 qr2 (.im (.int 20)) (.im (.int 5)) (.im (.int 2))
  refine ⟨_, _, rfl, ed2, ?_⟩
  obtain ⟨lo, rfl, hlo⟩ : ∃ t, d2 = .im (.int t) /\ (2 <= t /\ t <= 20) := by
    rcases hd2 with rfl | rfl | rfl <;> exact ⟨_, rfl, by omega, by omega⟩
  refine thenS_nx (ws_seq (ws_set (we_ixH (wa_lst (wa_cons (we_c (wa_cons (we_c (wa_cons (we_c (wa_nil ⟨fits_3, ?_⟩)))))))))))
  refine tap.draw hT rfl (by first | decide | omega) (by first | decide | omega) λ r3 a b hT pr3 qr3 => ?_
  obtain ⟨d3, hd3, ed3⟩ := at3 pr3 qr3 (.im (.int 9)) (.im (.int 3)) (.im (.int 1))
  refine ⟨_, _, rfl, ed3, ?_⟩
  obtain ⟨hv, rfl, hhv⟩ : ∃ t, d3 = .im (.int t) /\ (1 <= t /\ t <= 9) := by
    rcases hd3 with rfl | rfl | rfl <;> exact ⟨_, rfl, by omega, by omega⟩
  refine thenS_nx (ws_seq (ws_set (we_op (we_c (we_op (we_op (we_var rfl (we_var rfl ?_))))))))
  refine wp_mul (mulOk_l (by omega) (by omega)) ?_
  refine we_op (we_c ?_)
  refine tap.draw hT rfl (by first | decide | omega) (by first | decide | omega) λ r4 a b hT pr4 qr4 => ?_
  refine wp_add ?_
  refine wp_fdiv ⟨by omega, by omega⟩ ?_
  refine wp_add (thenS_nx (ws_seq (ws_set (we_new (wa_lst (wa_nil ⟨fits_0, thenS_nx (ws_seq (ws_for (wi_R (wa_cons (we_var rfl (wa_nil ⟨_, rfl, ?_⟩))))))⟩))))))
  have hsp : 0 <= (1 + m) * lo / (1 + r4) /\ (1 + m) * lo / (1 + r4) <= 160 := by
    have h1 : 0 <= (1 + m) * lo := Int.mul_nonneg (by omega) (by omega)
    have h2 : (1 + m) * lo <= 8 * lo := Int.mul_le_mul_of_nonneg_right (by omega) (by omega)
    refine ⟨Int.ediv_nonneg h1 (by omega), ?_⟩
    have : (1 + m) * lo / (1 + r4) <= (1 + m) * lo := Int.ediv_le_self _ h1
    omega
  generalize hS : 2 + (1 + m) * lo / (1 + r4) = sn at *
  refine ⟨rng1_of (by omega) (by omega), ?_⟩
  obtain ⟨k, hk⟩ := Int.eq_ofNat_of_zero_le (show 0 <= 1 + m by omega)
  rw [hk, Int.toNat_natCast]
  change WP (mLoop _ _ _ _ (Lw mo c lo hv sn (k : Int) none none none none none none) [a, b, .lst []]) _
  have hT : T (n + 10 * (k - 0)) a b := tap.le hT (by omega)
  refine wl_inv (λ r ls hd => ∃ (j : Nat) (ws : List Wm) (a b : MO) (z8 z9 z10 z11 z12 z13 : Option D), r = rangeD (j : Int) (k - j) /\ j <= k /\ ws.length = j /\ (∀ w ∈ ws, okM 500 c w) /\ ls = Lw mo c lo hv sn (k : Int) z8 z9 z10 z11 z12 z13 /\ hd = [a, b, .lst (ws.map wmD)] /\ T (n + 10 * (k - j)) a b) ⟨0, [], a, b, none, none, none, none, none, none, rfl, by omega, rfl, by simp, rfl, rfl, hT⟩ ?_ ?_
  . rintro d r ls hd ⟨j, ws, a, b, z8, z9, z10, z11, z12, z13, er, hj, hl, hws, rfl, rfl, hT⟩
    obtain ⟨m', hm⟩ : ∃ m, k - j = m + 1 := by
      cases q : k - j with
      | zero => rw [q] at er; cases er
      | succ m => exact ⟨m, rfl⟩
    rw [hm, rangeD] at er
    obtain ⟨rfl, rfl⟩ := List.cons.inj er
    have hT : T (n + 10 * (k - (j + 1)) + 10) a b := tap.le hT (by omega)
    refine ⟨Lw mo c lo hv sn (k : Int) (some (.im (.int (j : Int)))) z9 z10 z11 z12 z13, rfl, ?_⟩
    have atw : ∀ r : Int, 0 <= r -> r < j -> ∃ w ∈ ws, atI (ws.map wmD) r = some (wmD w) := by
      intro r h0 h1
      obtain ⟨i, hi⟩ := Int.eq_ofNat_of_zero_le h0
      have hi' : i < ws.length := by omega
      exact ⟨ws[i], List.getElem_mem hi', at_k hi (by simp [hi'])⟩
    refine ws_seq (ws_set ?_)
    refine tap.draw hT rfl (by first | decide | omega) (by first | decide | omega) λ way a b hT pway qway => ?_
    refine thenS_nx (ws_seq (ws_set (we_op (we_c ?_))))
    refine tap.draw hT rfl (by first | decide | omega) (by first | decide | omega) λ ln a b hT pln qln => ?_
    refine wp_add (thenS_nx (ws_seq (ws_set (we_op (we_op (we_var rfl (we_c (wp_sub ?_))))))))
    refine tap.draw hT rfl (by first | decide | omega) (by first | decide | omega) λ du a b hT pdu qdu => ?_
    refine wp_add (thenS_nx (ws_seq (ws_set ?_)))
    refine tap.draw hT (many := hv + 1) (rest := [.lst (ws.map wmD)]) (by simp) (by omega) (by omega) λ wt a b hT pwt qwt => thenS_nx ?_
    change WS _ (Lw mo c lo hv sn (k : Int) (some (.im (.int (j : Int)))) (some (.im (.int way))) (some (.im (.int (1 + ln)))) (some (.im (.int (c - 1 + du)))) (some (.im (.int wt))) z13) [a, b, .lst (ws.map wmD)] _
    -- the due
    refine ws_seq (WP.mono (Q := λ f x => ∃ (due : Int) (a b : MO), f = Fl.nx (Lw mo c lo hv sn (k : Int) (some (.im (.int (j : Int)))) (some (.im (.int way))) (some (.im (.int (1 + ln)))) (some (.im (.int due))) (some (.im (.int wt))) z13) /\ x = [a, b, .lst (ws.map wmD)] /\ (-500 <= due /\ due <= 500) /\ T (n + 10 * (k - (j + 1)) + 5) a b) (ws_ifn (wt_test (we_op (we_var rfl (we_c (wp_eqI ⟨_, rfl, λ hc => ?_, λ hc => ws_next ⟨_, a, b, rfl, rfl, by omega, tap.le hT (by omega)⟩⟩)))))) ?_)
    . refine ws_set (we_op ?_)
      refine tap.draw hT rfl (by first | decide | omega) (by first | decide | omega) λ r5 a b hT pr5 qr5 => ?_
      exact we_c (wp_sub ⟨r5 - 99, a, b, rfl, rfl, by omega, tap.le hT (by omega)⟩)
    rintro f x ⟨due, a, b, rfl, rfl, hdu, hT⟩
    refine thenS_nx ?_
    refine ws_seq (WP.mono (Q := λ f x => ∃ (due : Int) (a b : MO), f = Fl.nx (Lw mo c lo hv sn (k : Int) (some (.im (.int (j : Int)))) (some (.im (.int way))) (some (.im (.int (1 + ln)))) (some (.im (.int due))) (some (.im (.int wt))) z13) /\ x = [a, b, .lst (ws.map wmD)] /\ (-500 <= due /\ due <= 500) /\ T (n + 10 * (k - (j + 1)) + 4) a b) (ws_ifn (wt_and (wt_test (we_op (we_var rfl (we_c (wp_eqI ⟨_, rfl, ?_⟩))))))) ?_)
    . by_cases h1 : way = 1
      . rw [if_pos (by simpa using h1)]
        refine wt_test (we_op (we_var rfl (we_c (wp_gt ⟨_, rfl, λ hc => ?_, λ hc => ws_next ⟨due, a, b, rfl, rfl, hdu, tap.le hT (by omega)⟩⟩))))
        have hc : 0 < (j : Int) := by simpa using hc
        refine ws_set (we_op (we_op (we_op (we_var rfl ?_))))
        refine tap.draw hT (many := (j : Int)) (rest := [.lst (ws.map wmD)]) (by simp) (by omega) (by omega) λ r a b hT pr qr => ?_
        obtain ⟨w, hw, ew⟩ := atw r pr qr
        have okw := hws w hw
        refine wp_ix rfl ew (we_c (wp_ix (ds := [.im (.int w.len), .im (.int w.com), .im (.tup [.str "miss", .int w.due, .int w.wt])]) rfl (at_2 _ _ _ _) (we_c (wp_ix (ds := [.im (.str "miss"), .im (.int w.due), .im (.int w.wt)]) rfl (at_1 _ _ _) ⟨w.due, a, b, rfl, rfl, okw.2.2.1, hT⟩))))
      . rw [if_neg (by simpa using h1)]
        exact ⟨(λ h => by cases h), λ _ => ws_next ⟨due, a, b, rfl, rfl, hdu, tap.le hT (by omega)⟩⟩
    rintro f x ⟨due, a, b, rfl, rfl, hdu, hT⟩
    refine thenS_nx ?_
    refine ws_seq (ws_set (we_tup (wa_cons (we_var rfl (wa_cons (we_var rfl (wa_cons (we_tup (wa_cons (we_c (wa_cons (we_var rfl (wa_cons (we_var rfl (wa_nil ⟨fits_3, wa_nil ⟨fits_3, thenS_nx ?_⟩⟩)))))))))))))))
    have okn : okM 500 c ⟨1 + ln, c, due, wt⟩ := ⟨by dsimp only; omega, rfl, hdu, by dsimp only; omega⟩
    have e0 : mkTup [.im (.int (1 + ln)), .im (.int c), mkTup [.im (.str "miss"), .im (.int due), .im (.int wt)]] = wmD ⟨1 + ln, c, due, wt⟩ := rfl
    rw [e0]
    change WS _ (Lw mo c lo hv sn (k : Int) (some (.im (.int (j : Int)))) (some (.im (.int way))) (some (.im (.int (1 + ln)))) (some (.im (.int due))) (some (.im (.int wt))) (some (wmD ⟨1 + ln, c, due, wt⟩))) [a, b, .lst (ws.map wmD)] _
    refine ws_seq (WP.mono (Q := λ f x => ∃ (w : Wm) (a b : MO), f = Fl.nx (Lw mo c lo hv sn (k : Int) (some (.im (.int (j : Int)))) (some (.im (.int way))) (some (.im (.int (1 + ln)))) (some (.im (.int due))) (some (.im (.int wt))) (some (wmD w))) /\ x = [a, b, .lst (ws.map wmD)] /\ okM 500 c w /\ T (n + 10 * (k - (j + 1)) + 3) a b) (ws_ifn (wt_and (wt_test (we_op (we_var rfl (we_c (wp_eqI ⟨_, rfl, ?_⟩))))))) ?_)
    . by_cases h1 : way = 2
      . rw [if_pos (by simpa using h1)]
        refine wt_test (we_op (we_var rfl (we_c (wp_gt ⟨_, rfl, λ hc => ?_, λ hc => ws_next ⟨_, a, b, rfl, rfl, okn, tap.le hT (by omega)⟩⟩))))
        have hc : 0 < (j : Int) := by simpa using hc
        refine ws_set (we_op (we_var rfl ?_))
        refine tap.draw hT (many := (j : Int)) (rest := [.lst (ws.map wmD)]) (by simp) (by omega) (by omega) λ r a b hT pr qr => ?_
        obtain ⟨w, hw, ew⟩ := atw r pr qr
        exact wp_ix rfl ew ⟨w, a, b, rfl, rfl, hws w hw, hT⟩
      . rw [if_neg (by simpa using h1)]
        exact ⟨(λ h => by cases h), λ _ => ws_next ⟨_, a, b, rfl, rfl, okn, tap.le hT (by omega)⟩⟩
    rintro f x ⟨w, a, b, rfl, rfl, okw, hT⟩
    refine thenS_nx (ws_drop (we_mt (we_var rfl ⟨⟨_, rfl⟩, wa_cons (we_var rfl (wa_nil (wp_app rfl (fitsL_of (by simp; omega)) ?_)))⟩)))
    exact ⟨gok_nil _, j + 1, ws ++ [w], a, b, _, _, _, _, _, _, by rw [show ((j : Int) + 1) = ((j + 1 : Nat) : Int) by omega, show m' = k - (j + 1) by omega], by omega, by simp [hl], λ z hz => by rcases List.mem_append.mp hz with q | q; exact hws z q; rw [List.mem_singleton] at q; subst q; exact okw, rfl, by simp, tap.le hT (by omega)⟩
  . rintro ls hd ⟨j, ws, a, b, z8, z9, z10, z11, z12, z13, er, hj, hl, hws, rfl, rfl, hT⟩
    have : j = k := by
      cases q : k - j with
      | zero => omega
      | succ m => rw [q] at er; cases er
    subst this
    refine thenS_nx (ws_ret (we_cb (wa_cons (we_var rfl (wa_nil (wp_f1 rfl rfl ?_))))))
    rw [<- im_wms, mkTup_im]
    exact ⟨_, a, b, _, rfl, ⟨ws, c, rfl, λ z => by rw [z] at hl; simp at hl; omega, by omega, by omega, hws⟩, tap.le hT (by omega), rfl⟩
abbrev enD (q : D × Nat) : D := mkTup [.im (.int (q.2 : Int)), q.1]
theorem far_w (n : Nat) {ws : List Wm} {c : Int} (ok : okMs 500 c ws) : ∀ a b, T (n + 20) a b -> WF F_far [.mu 1, .im (wmsI ws)] [a, b] λ d x => ∃ i a' b' g, d = .im i /\ (∃ ws c, i = wmsI ws /\ okMs 2000 c ws) /\ T n a' b' /\ x = a' :: b' :: g := by
  intro a b hT
  obtain ⟨hne, hl8, hc, hws⟩ := ok
  have hl0 : 0 < ws.length := len_pos hne
  unfold F_far
  refine wf_mk rfl ?_
  refine ws_seq (ws_set ?_)
  refine tap.draw hT rfl (by first | decide | omega) (by first | decide | omega) λ way a b hT pway qway => ?_
  refine thenS_nx (ws_seq (ws_set (we_op ?_)))
  refine tap.draw hT rfl (by first | decide | omega) (by first | decide | omega) λ dy a b hT pdy qdy => ?_
  refine we_c (wp_sub (thenS_nx (ws_seq (ws_set ?_))))
  refine tap.draw hT (many := (ws.length : Int)) (rest := []) (by simp [kLen]) (by omega) (by omega) λ jj a b hT pj qj => thenS_nx ?_
  refine ws_seq (ws_set (we_new (wa_lst (wa_nil ⟨fits_0, thenS_nx ?_⟩))))
  refine ws_seq (ws_for (wi_enum (wi_T (we_var rfl ⟨ws.map wmD, by rw [<- im_wms]; rfl, ?_⟩))))
  change WP (mLoop _ _ _ (((ws.map wmD).zipIdx 0).map enD) [some (.mu 1), some (.im (wmsI ws)), some (.im (.int way)), some (.im (.int (dy - 999))), some (.im (.int jj)), some (.mu 2), none, none, none, none, none] [a, b, .lst []]) _
  have hT : T (n + (ws.length - 0)) a b := tap.le hT (by omega)
  refine wl_inv (λ r ls hd => ∃ (dn rest fs : List Wm) (a b : MO) (z6 z7 z8 z9 z10 : Option D), ws = dn ++ rest /\ r = ((rest.map wmD).zipIdx dn.length).map enD /\ fs.length = dn.length /\ (∀ w ∈ fs, okM 2000 (if way = 2 then 0 else c) w) /\ ls = [some (.mu 1), some (.im (wmsI ws)), some (.im (.int way)), some (.im (.int (dy - 999))), some (.im (.int jj)), some (.mu 2), z6, z7, z8, z9, z10] /\ hd = [a, b, .lst (fs.map wmD)] /\ T (n + (ws.length - dn.length)) a b) ⟨[], ws, [], a, b, none, none, none, none, none, rfl, rfl, rfl, by simp, rfl, rfl, hT⟩ ?_ ?_
  . rintro d r ls hd ⟨dn, rest, fs, a, b, z6, z7, z8, z9, z10, e1, er, hf, hfs, rfl, rfl, hT⟩
    cases rest with
    | nil => cases er
    | cons w rest =>
      rw [List.map_cons, List.zipIdx_cons, List.map_cons] at er
      obtain ⟨rfl, rfl⟩ := List.cons.inj er
      have hlen : ws.length = dn.length + (rest.length + 1) := by rw [e1]; simp
      have hT : T (n + (ws.length - (dn ++ [w]).length) + 1) a b := tap.le hT (by simp; omega)
      have okw := hws w (by rw [e1]; simp)
      refine ⟨[some (.mu 1), some (.im (wmsI ws)), some (.im (.int way)), some (.im (.int (dy - 999))), some (.im (.int jj)), some (.mu 2), some (.im (.int (dn.length : Int))), some (.im (.int w.len)), some (.im (.int w.com)), some (.im (.tup [.str "miss", .int w.due, .int w.wt])), z10], rfl, ?_⟩
      refine ws_ifn (wt_test (we_op (we_var rfl (we_c (wp_eqI ⟨_, rfl, λ h2 => ?_, λ h2 => ?_⟩)))))
      . have h2 : way = 2 := by simpa using h2
        refine ws_drop (we_mt (we_var rfl ⟨⟨_, rfl⟩, wa_cons (we_tup (wa_cons (we_var rfl (wa_cons (we_c (wa_cons (we_tup (wa_cons (we_c (wa_cons (we_op (we_var rfl ?_)) ))))))))))⟩))
        refine tap.draw hT rfl (by first | decide | omega) (by first | decide | omega) λ r5 a b hT pr5 qr5 => ?_
        refine wp_sub (wa_cons (we_c (wa_nil ⟨fits_3, wa_nil ⟨fits_3, wa_nil (wp_app rfl (fitsL_of (by simp; omega)) ?_)⟩⟩)))
        have okn : okM 2000 (if way = 2 then 0 else c) ⟨w.len, 0, dy - 999 - r5, 1⟩ := ⟨okw.1, by rw [if_pos h2], by dsimp only; omega, by dsimp only; omega⟩
        exact ⟨gok_nil _, dn ++ [w], rest, fs ++ [⟨w.len, 0, dy - 999 - r5, 1⟩], a, b, _, _, _, _, _, by rw [e1]; simp, by simp, by simp [hf], λ z hz => by rcases List.mem_append.mp hz with q | q; exact hfs z q; rw [List.mem_singleton] at q; subst q; exact okn, rfl, by simp [wmI], hT⟩
      . have h2 : way ≠ 2 := by simpa using h2
        refine ws_seq (ws_set (WP.mono (Q := λ d x => ∃ lt : Int, d = .im (.int lt) /\ x = [a, b, .lst (fs.map wmD)] /\ -999 <= lt /\ lt <= 999) (we_ifn (wt_or (wt_test (we_op (we_var rfl (we_c (wp_eqI ⟨_, rfl, ?_⟩))))))) ?_))
        . by_cases h0 : way = 0
          . rw [if_pos (by simpa using h0)]
            exact ⟨λ _ => we_var rfl ⟨_, rfl, rfl, by omega, by omega⟩, λ h => by cases h⟩
          . rw [if_neg (by simpa using h0)]
            exact wt_test (we_op (we_var rfl (we_var rfl (wp_eqI ⟨_, rfl, λ _ => we_var rfl ⟨_, rfl, rfl, by omega, by omega⟩, λ _ => we_c ⟨0, rfl, rfl, by omega, by omega⟩⟩))))
        rintro d x ⟨lt, rfl, rfl, l1, l2⟩
        refine thenS_nx (ws_drop (we_mt (we_var rfl ⟨⟨_, rfl⟩, wa_cons (we_tup (wa_cons (we_var rfl (wa_cons (we_var rfl (wa_cons (we_tup (wa_cons (we_c (wa_cons (we_op (we_op (we_var rfl (we_c (wp_ix (ds := [.im (.str "miss"), .im (.int w.due), .im (.int w.wt)]) rfl (at_1 _ _ _) (we_var rfl (wp_add (wa_cons (we_op (we_var rfl (we_c (wp_ix (ds := [.im (.str "miss"), .im (.int w.due), .im (.int w.wt)]) rfl (at_2 _ _ _ _) (wa_nil ⟨fits_3, wa_nil ⟨fits_3, wa_nil (wp_app rfl (fitsL_of (by simp; omega)) ?_)⟩⟩)))))))))))))))))))))))⟩)))
        have okn : okM 2000 (if way = 2 then 0 else c) ⟨w.len, w.com, w.due + lt, w.wt⟩ := ⟨okw.1, by rw [if_neg h2]; exact okw.2.1, by have := okw.2.2.1; dsimp only; omega, okw.2.2.2⟩
        exact ⟨gok_nil _, dn ++ [w], rest, fs ++ [⟨w.len, w.com, w.due + lt, w.wt⟩], a, b, _, _, _, _, _, by rw [e1]; simp, by simp, by simp [hf], λ z hz => by rcases List.mem_append.mp hz with q | q; exact hfs z q; rw [List.mem_singleton] at q; subst q; exact okn, rfl, by simp [wmI], tap.le hT (by omega)⟩
  . rintro ls hd ⟨dn, rest, fs, a, b, z6, z7, z8, z9, z10, e1, er, hf, hfs, rfl, rfl, hT⟩
    have : rest = [] := by cases rest with
      | nil => rfl
      | cons t r => cases er
    subst this
    rw [List.append_nil] at e1
    subst e1
    refine thenS_nx (ws_ret (we_cb (wa_cons (we_var rfl (wa_nil (wp_f1 rfl rfl ?_))))))
    rw [<- im_wms, mkTup_im]
    refine ⟨_, a, b, _, rfl, ⟨fs, _, rfl, λ z => by rw [z] at hf; simp at hf; exact hne (List.length_eq_zero_iff.mp hf.symm), by omega, ?_, hfs⟩, tap.le hT (by omega), rfl⟩
    split <;> omega
theorem intsD_int (ns : List Int) : intsD (intD ns) = some ns := by
  induction ns with
  | nil => rfl
  | cons n r ih => simp [intD] at ih ⊢
theorem wm_at {ws : List Wm} {k : Nat} (hk : k < ws.length) : atI (ws.map wmD) (k : Int) = some (wmD ws[k]) := at_k rfl (by simp [hk])
theorem coming_w {B c : Int} {ws : List Wm} (ok : okMs B c ws) : WF F_one_coming [.im (wmsI ws)] [] λ d x => d = .im (.int c) := by
  obtain ⟨hne, hl8, hc, hws⟩ := ok
  have hl0 : 0 < ws.length := len_pos hne
  unfold F_one_coming
  refine wf_mk rfl ?_
  refine ws_seq (ws_set (we_call0 (wa_cons (we_var rfl (wa_nil ⟨by simp, ?_⟩)))))
  have e0 : (ws[0]).com = c := (hws _ (List.getElem_mem hl0)).2.1
  have S : WF F_same_coming [.im (wmsI ws)] [] λ d x => d = .im (.int c) := by
    unfold F_same_coming
    refine wf_mk rfl ?_
    refine ws_seq (ws_set (we_op (we_op (we_var rfl (we_c (wp_ix (by rw [sv_tup, im_wms]) (wm_at (k := 0) hl0) ?_))))))
    refine we_c (wp_ix (ds := [.im (.int (ws[0]).len), .im (.int (ws[0]).com), .im (.tup [.str "miss", .int (ws[0]).due, .int (ws[0]).wt])]) rfl (at_1 _ _ _) (thenS_nx ?_))
    rw [e0]
    refine ws_seq (ws_ifn (wt_tru (we_hid (wa_comp (wi_T (we_var rfl ⟨_, rfl, ?_⟩))))))
    rw [im_wms]
    refine ⟨fits_of (by simp; omega), ?_⟩
    refine wc_map wmD (λ _ => some (.im (.bl true))) (λ _ ls => ∃ x, ls = [some x, some (.im (.int c))]) _ (gok_nil _) ?_ ?_
    . rintro p hp ls hls
      refine ⟨[some (wmD p), some (.im (.int c))], by rcases hls with rfl | ⟨_, x, rfl⟩ <;> rfl, ⟨_, rfl⟩, wt_yes ⟨rfl, ?_⟩⟩
      rw [if_pos rfl]
      refine ⟨_, rfl, we_op (we_op (we_var rfl (we_c (wp_ix (ds := [.im (.int p.len), .im (.int p.com), .im (.tup [.str "miss", .int p.due, .int p.wt])]) rfl (at_1 _ _ _) (we_var rfl (wp_eqI ⟨rfl, ?_⟩))))))⟩
      simp [(hws p hp).2.1]
    have e : (ws.filterMap λ _ => some (D.im (.bl true))) = blD (ws.map λ _ => true) := by simp [blD]
    rw [e]
    refine ⟨_, by rw [kAll, blsD_map]; rfl, _, rfl, ?_⟩
    refine ⟨λ _ => ?_, (λ h => by simp at h)⟩
    exact ws_ret (we_var rfl rfl)
  refine S.mono ?_
  rintro d x rfl
  refine ⟨_, rfl, thenS_nx ?_⟩
  refine ws_seq (ws_ifn (wt_test ?_))
  refine WP.eq (z := .im (.bl false)) (h := []) (by simp [mIsN]) ⟨_, rfl, (λ h => by cases h), λ _ => ws_next (thenS_nx ?_)⟩
  exact ws_ret (we_var rfl rfl)
theorem refuse_w {B c : Int} {ws : List Wm} (ok : okMs B c ws) : WF F_refuse_other_costs [.im (wmsI ws), .im (.str "miss")] [] λ d x => d = .im .non := by
  have hl8 := ok.2.1
  unfold F_refuse_other_costs
  refine wf_mk rfl ?_
  refine ws_ifn (wt_tru (we_hid (wa_comp (wi_T (we_var rfl ⟨_, rfl, ?_⟩)))))
  rw [im_wms]
  refine ⟨fits_of (by simp; omega), ?_⟩
  refine wc_map wmD (λ _ => some (.im (.bl false))) (λ _ ls => ∃ x, ls = [some x, some (.im (.str "miss"))]) _ (gok_nil _) ?_ ?_
  . rintro p hp ls hls
    refine ⟨[some (wmD p), some (.im (.str "miss"))], by rcases hls with rfl | ⟨_, x, rfl⟩ <;> rfl, ⟨_, rfl⟩, wt_yes ⟨rfl, ?_⟩⟩
    rw [if_pos rfl]
    refine ⟨_, rfl, we_op (we_op (we_op (we_var rfl (we_c (wp_ix (ds := [.im (.int p.len), .im (.int p.com), .im (.tup [.str "miss", .int p.due, .int p.wt])]) rfl (at_2 _ _ _ _) (we_c (wp_ix (ds := [.im (.str "miss"), .im (.int p.due), .im (.int p.wt)]) rfl (at_0 _ _) (we_var rfl (wp_neX ⟨rfl, ?_⟩)))))))))⟩
    simp
  have e : (ws.filterMap λ _ => some (D.im (.bl false))) = blD (ws.map λ _ => false) := by simp [blD]
  rw [e]
  refine ⟨_, by rw [kAny, blsD_map]; rfl, _, rfl, ?_⟩
  exact ⟨(λ h => by simp at h), λ _ => ws_next rfl⟩
theorem late_w {B c : Int} {ws : List Wm} (ok : okMs B c ws) : WF F_late_coming [.im (wmsI ws)] [] λ d x => d = .im (.int c) := by
  unfold F_late_coming
  refine wf_mk rfl ?_
  refine ws_seq (ws_set (we_call0 (wa_cons (we_var rfl (wa_nil ⟨by simp, (coming_w ok).mono ?_⟩)))))
  rintro d x rfl
  refine ⟨_, rfl, thenS_nx ?_⟩
  refine ws_seq (ws_drop (we_call0 (wa_cons (we_var rfl (wa_cons (we_c (wa_nil ⟨by simp, (refuse_w ok).mono ?_⟩)))))))
  rintro d x rfl
  exact ⟨_, rfl, thenS_nx (ws_ret (we_var rfl rfl))⟩
theorem weight_w (p : Wm) : WF F_weight_of [wmD p] [] λ d x => d = .im (.int p.wt) := by
  unfold F_weight_of
  refine wf_mk rfl ?_
  refine ws_ret (we_op (we_op (we_var rfl (we_c (wp_ix (ds := [.im (.int p.len), .im (.int p.com), .im (.tup [.str "miss", .int p.due, .int p.wt])]) rfl (at_2 _ _ _ _) ?_)))))
  refine we_neg (we_c ⟨_, rfl, ?_⟩)
  refine wp_ix (ds := [.im (.str "miss"), .im (.int p.due), .im (.int p.wt)]) (e := .im (.int p.wt)) rfl ?_ rfl
  rfl
abbrev fullW (ws : List Wm) : Int := (ws.map Wm.wt).sum
theorem full_w {B c : Int} {ws : List Wm} (ok : okMs B c ws) : WF F_full_weight [.im (wmsI ws)] [] λ d x => d = .im (.int (fullW ws)) := by
  have hl8 := ok.2.1
  unfold F_full_weight
  refine wf_mk rfl ?_
  refine ws_ret (we_hid (wa_comp (wi_T (we_var rfl ⟨_, rfl, ?_⟩))))
  rw [im_wms]
  refine ⟨fits_of (by simp; omega), ?_⟩
  refine wc_map wmD (λ w => some (.im (.int w.wt))) (λ _ ls => ∃ x, ls = [some x]) _ (gok_nil _) ?_ ?_
  . rintro p hp ls hls
    refine ⟨[some (wmD p)], by rcases hls with rfl | ⟨_, x, rfl⟩ <;> rfl, ⟨_, rfl⟩, wt_yes ⟨rfl, ?_⟩⟩
    rw [if_pos rfl]
    refine ⟨_, rfl, we_call0 (wa_cons (we_var rfl (wa_nil ⟨by simp [wmI], (weight_w p).mono ?_⟩)))⟩
    rintro d y rfl
    exact ⟨_, rfl, rfl, rfl⟩
  have e : (ws.filterMap λ w => some (D.im (.int w.wt))) = intD (ws.map Wm.wt) := by simp [intD]
  rw [e]
  exact ⟨_, by unfold kSum; rw [intsD_int]; rfl, rfl⟩
def dueOf (ws : List Wm) (k : Nat) : Int := (ws[k]?.map Wm.due).getD 0
def duePs (ws : List Wm) : List (Int × Int) := (List.range ws.length).map λ k : Nat => (dueOf ws k, (k : Int))
def ordI (ws : List Wm) : List Int := (sortP (duePs ws)).map (·.2)
theorem due_at {ws : List Wm} {k : Nat} (hk : k < ws.length) : (ws[k]).due = dueOf ws k := by simp [dueOf, hk]
theorem due_ok {B c : Int} {ws : List Wm} (ok : okMs B c ws) (hB : B <= 2000) {k : Nat} (hk : k < ws.length) : pok (dueOf ws k, (k : Int)) := by
  have := (ok.2.2.2 _ (List.getElem_mem hk)).2.2.1
  rw [due_at hk] at this
  have := ok.2.1
  unfold pok; dsimp only; omega
theorem pk_inj {p q : Int × Int} (hp : pok p) (hq : pok q) (h : pkey p = pkey q) : p = q := by
  unfold pok at hp hq
  unfold pkey at h
  have : p.1 = q.1 := by omega
  have : p.2 = q.2 := by omega
  exact Prod.ext (by assumption) (by assumption)
theorem ord_eq {B c : Int} {ws : List Wm} (ok : okMs B c ws) (hB : B <= 2000) {ms : List Int} (pm : ms.Perm ((List.range ws.length).map λ k : Nat => (k : Int))) (pw : ms.Pairwise λ a b => pkey (dueOf ws a.toNat, a) <= pkey (dueOf ws b.toNat, b)) : ms = ordI ws := by
  have p1 : (ms.map λ n : Int => (dueOf ws n.toNat, n)).Perm (duePs ws) := by
    have := pm.map λ n : Int => (dueOf ws n.toNat, n)
    rw [List.map_map] at this
    exact this
  have p2 : (sortP (duePs ws)).Perm (duePs ws) := List.mergeSort_perm ..
  have w2 : (sortP (duePs ws)).Pairwise λ a b => pkey a <= pkey b := by
    have := List.pairwise_mergeSort (le := λ a b : Int × Int => decide (pkey a <= pkey b)) (by intro a b c h1 h2; simp at *; omega) (by intro a b; simp; omega) (duePs ws)
    exact this.imp (by simp)
  have w1 : (ms.map λ n : Int => (dueOf ws n.toNat, n)).Pairwise λ a b => pkey a <= pkey b := List.pairwise_map.mpr pw
  have okd : ∀ a ∈ duePs ws, pok a := λ a ha => by
    obtain ⟨k, hk, rfl⟩ := List.mem_map.mp ha
    exact due_ok ok hB (by simpa using hk)
  have e : (ms.map λ n : Int => (dueOf ws n.toNat, n)) = sortP (duePs ws) := (p1.trans p2.symm).eq_of_pairwise (le := λ a b => pkey a <= pkey b) (λ a b ha hb h1 h2 => pk_inj (okd a (p1.mem_iff.mp ha)) (okd b (p2.mem_iff.mp hb)) (Int.le_antisymm h1 h2)) w1 w2
  unfold ordI
  rw [<- e, List.map_map]
  have : ((λ x : Int × Int => x.2) ∘ λ n : Int => (dueOf ws n.toNat, n)) = id := rfl
  rw [this, List.map_id]
theorem by_dues_w {B c : Int} {ws : List Wm} (ok : okMs B c ws) (hB : B <= 2000) : WF F_by_dues [.im (wmsI ws)] [] λ d x => d = .mu 0 /\ x = [.lst (intD (ordI ws))] := by
  have hl8 := ok.2.1
  unfold F_by_dues
  refine wf_mk rfl ?_
  refine ws_ret (we_new (wa_sortPR (wa_cons (we_cb (wa_cons (we_var rfl (wa_nil (wp_f1 rfl rfl (wa_nil ⟨ws.length, by simp, by omega, λ n => (dueOf ws n.toNat, n), λ k hk => due_ok ok hB hk, λ a ha b hb e => ?_, λ k hk => ?_, λ ms pm pw => ?_⟩)))))))))
  . have := pk_inj (p := (dueOf ws ((a : Int)).toNat, (a : Int))) (q := (dueOf ws ((b : Int)).toNat, (b : Int))) (due_ok ok hB ha) (due_ok ok hB hb) e
    have := congrArg Prod.snd this
    dsimp only at this
    omega
  . have w : WE (mTup (mCons (mOp gIx (mOp gIx (mOp gIx (mVar 1) (mVar 0)) (mC (.int 2))) (mC (.int 1))) (mCons (mVar 0) mNil))) [some (.im (.int (k : Int))), some (.im (wmsI ws))] [] λ d x => d = pairD (dueOf ws k, (k : Int)) /\ x = [] := by
      refine we_tup (wa_cons (we_op (we_op (we_op (we_var rfl (we_var rfl (wp_ix (by rw [sv_tup, im_wms]) (wm_at hk) (we_c (wp_ix (ds := [.im (.int (ws[k]).len), .im (.int (ws[k]).com), .im (.tup [.str "miss", .int (ws[k]).due, .int (ws[k]).wt])]) rfl (at_2 _ _ _ _) (we_c (wp_ix (ds := [.im (.str "miss"), .im (.int (ws[k]).due), .im (.int (ws[k]).wt)]) rfl (at_1 _ _ _) (wa_cons (we_var rfl (wa_nil ⟨fits_2, ?_, rfl⟩))))))))))))))
      rw [due_at hk]; rfl
    obtain ⟨d, x, e, rfl, rfl⟩ := w
    exact e
  . rw [ord_eq ok hB pm pw]
    exact ⟨rfl, rfl⟩
theorem lby_dues_w {B c : Int} {ws : List Wm} (ok : okMs B c ws) (hB : B <= 2000) : WF F_lby_dues [.im (wmsI ws)] [] λ d x => d = .mu 0 /\ x = [.lst (intD (ordI ws))] := by
  have hl8 := ok.2.1
  unfold F_lby_dues
  refine wf_mk rfl ?_
  refine ws_ret (we_new (wa_comp (wi_H ?_)))
  have hs : WA (mSortedP (mItH (mComp 1 [0] (mItR (mCons (mCB (f1 true kLen) (mCons (mVar 0) mNil)) mNil)) (nName 0) mYes (mTup (mCons (mOp gIx (mOp gIx (mOp gIx (mVar 1) (mVar 0)) (mC (.int 2))) (mC (.int 1))) (mCons (mVar 0) mNil)))))) [some (.im (wmsI ws))] [] λ ds x => ds = (sortP (duePs ws)).map pairD /\ x = [] := by
    have h0 : WA (mComp 1 [0] (mItR (mCons (mCB (f1 true kLen) (mCons (mVar 0) mNil)) mNil)) (nName 0) mYes (mTup (mCons (mOp gIx (mOp gIx (mOp gIx (mVar 1) (mVar 0)) (mC (.int 2))) (mC (.int 1))) (mCons (mVar 0) mNil)))) [some (.im (wmsI ws))] [] λ ds x => ds = (duePs ws).map pairD /\ x = [] := by
      refine wa_comp (wi_R (wa_cons (we_cb (wa_cons (we_var rfl (wa_nil (wp_f1 rfl rfl (wa_nil ⟨(ws.length : Int), by simp, rng1_of (by omega) (by omega), ?_⟩))))))))
      rw [Int.toNat_natCast, range_natD]
      refine ⟨fits_of (by simp [natD]; omega), ?_⟩
      refine wc_map (λ k : Nat => D.im (.int (k : Int))) (λ k => some (pairD (dueOf ws k, (k : Int)))) (λ _ ls => ∃ x, ls = [some x, some (.im (wmsI ws))]) _ (gok_nil _) ?_ ?_
      . rintro k hk ls hls
        have hk : k < ws.length := by simpa using hk
        refine ⟨[some (.im (.int (k : Int))), some (.im (wmsI ws))], by rcases hls with rfl | ⟨_, x, rfl⟩ <;> rfl, ⟨_, rfl⟩, wt_yes ⟨rfl, ?_⟩⟩
        rw [if_pos rfl]
        refine ⟨_, rfl, we_tup (wa_cons (we_op (we_op (we_op (we_var rfl (we_var rfl (wp_ix (by rw [sv_tup, im_wms]) (wm_at hk) (we_c (wp_ix (ds := [.im (.int (ws[k]).len), .im (.int (ws[k]).com), .im (.tup [.str "miss", .int (ws[k]).due, .int (ws[k]).wt])]) rfl (at_2 _ _ _ _) (we_c (wp_ix (ds := [.im (.str "miss"), .im (.int (ws[k]).due), .im (.int (ws[k]).wt)]) rfl (at_1 _ _ _) (wa_cons (we_var rfl (wa_nil ⟨fits_2, rfl, ?_⟩))))))))))))))⟩
        rw [due_at hk]; rfl
      . simp [duePs]
    obtain ⟨ds, x, e, rfl, rfl⟩ := h0
    refine ⟨_, _, ?_, rfl, rfl⟩
    have okd : ∀ a ∈ duePs ws, pok a := λ a ha => by
      obtain ⟨k, hk, rfl⟩ := List.mem_map.mp ha
      exact due_ok ok hB (by simpa using hk)
    have hl : (duePs ws).length < 64 := by simp [duePs]; omega
    simp only [mSortedP, mItH, e, Option.bind_some, Option.map_some, pairsD_map]
    rw [if_pos ⟨hl, okd⟩]
  refine WP.mono hs ?_
  rintro ds x ⟨rfl, rfl⟩
  refine ⟨fits_of (by simp [sortP, List.length_mergeSort, duePs]; omega), ?_⟩
  refine wc_map pairD (λ p => some (.im (.int p.2))) (λ _ ls => ∃ x, ls = [some x]) _ (gok_nil _) ?_ ?_
  . rintro p hp ls hls
    refine ⟨[some (pairD p)], by rcases hls with rfl | ⟨_, x, rfl⟩ <;> rfl, ⟨_, rfl⟩, wt_yes ⟨rfl, ?_⟩⟩
    rw [if_pos rfl]
    exact ⟨_, rfl, we_op (we_var rfl (we_c (wp_ix (ds := [.im (.int p.1), .im (.int p.2)]) rfl (at_1 _ _ _) ⟨rfl, rfl⟩)))⟩
  . refine ⟨rfl, ?_⟩
    simp [ordI, intD]
end T39
namespace Lt
def IsMin (E : List Int) (o : Option Int) : Prop := (o = none /\ E = []) ∨ ∃ m, o = some m /\ m ∈ E /\ ∀ e ∈ E, m <= e
theorem IsMin.uniq {E : List Int} {o o' : Option Int} (h : IsMin E o) (h' : IsMin E o') : o = o' := by
  rcases h with ⟨rfl, rfl⟩ | ⟨m, rfl, hm, hl⟩
  . rcases h' with ⟨rfl, _⟩ | ⟨m, rfl, hm, _⟩
    . rfl
    . cases hm
  . rcases h' with ⟨rfl, rfl⟩ | ⟨m', rfl, hm', hl'⟩
    . cases hm
    . have := hl m' hm'; have := hl' m hm
      have : m = m' := by omega
      rw [this]
theorem isMin_nil : IsMin [] none := .inl ⟨rfl, rfl⟩
def put1 (o : Option Int) (e : Int) : Option Int := match o with | none => some e | some x => if e < x then some e else some x
def comb (kept more : Option Int) : Option Int := match more with | none => kept | some y => match kept with | some x => if x <= y then some x else some y | none => some y
theorem IsMin.comb {A B : List Int} {o o' : Option Int} (h : IsMin A o) (h' : IsMin B o') : IsMin (A ++ B) (comb o o') := by
  rcases h' with ⟨rfl, rfl⟩ | ⟨y, rfl, hy, ly⟩
  . rw [List.append_nil]; exact h
  . rcases h with ⟨rfl, rfl⟩ | ⟨x, rfl, hx, lx⟩
    . exact .inr ⟨y, rfl, by simpa using hy, by simpa using ly⟩
    . unfold Lt.comb
      dsimp only
      split
      . exact .inr ⟨x, rfl, by simp [hx], λ e he => by rcases List.mem_append.mp he with q | q; exact lx e q; have := ly e q; omega⟩
      . exact .inr ⟨y, rfl, by simp [hy], λ e he => by rcases List.mem_append.mp he with q | q; have := lx e q; omega; exact ly e q⟩
def behind (l d : Int) (o : Option Int) : Option Int := match o with | none => none | some x => if x + l <= d then some (x + l) else none
theorem IsMin.behind {A : List Int} {o : Option Int} (l d : Int) (h : IsMin A o) : IsMin ((A.map (· + l)).filter λ e => decide (e <= d)) (behind l d o) := by
  rcases h with ⟨rfl, rfl⟩ | ⟨x, rfl, hx, lx⟩
  . exact isMin_nil
  . unfold Lt.behind
    dsimp only
    split
    . next q =>
      refine .inr ⟨x + l, rfl, List.mem_filter.mpr ⟨List.mem_map.mpr ⟨x, hx, rfl⟩, by simpa using q⟩, λ e he => ?_⟩
      obtain ⟨z, hz, rfl⟩ := List.mem_map.mp (List.mem_filter.mp he).1
      have := lx z hz; omega
    . next q =>
      refine .inl ⟨rfl, List.filter_eq_nil_iff.mpr λ e he => ?_⟩
      obtain ⟨z, hz, rfl⟩ := List.mem_map.mp he
      have := lx z hz
      simp; omega
abbrev En := Nat × Nat × Int
abbrev Wx := Int × Int × Nat
def more (i : Nat) (w : Wx) (E : List En) : List En := (E.filter λ e => decide (e.2.2 + w.1 <= w.2.1)).map λ e => (i + 1, e.2.1 + w.2.2, e.2.2 + w.1)
def foundTo (c : Int) : List Wx -> Nat -> List En
  | _, 0 => [(0, 0, c)]
  | L, i + 1 => foundTo c L i ++ (match L[i]? with | some w => more i w (foundTo c L i) | none => [])
def sel (w : Nat) (E : List En) : List Int := (E.filter λ e => decide (e.2.1 = w)).map λ e => e.2.2
theorem sel_app (w : Nat) (E F : List En) : sel w (E ++ F) = sel w E ++ sel w F := by simp [sel]
theorem sel_more (i : Nat) (x : Wx) (w : Nat) (E : List En) : sel w (more i x E) = if w < x.2.2 then [] else ((sel (w - x.2.2) E).map (· + x.1)).filter λ e => decide (e <= x.2.1) := by
  induction E with
  | nil => simp [more, sel]
  | cons e r ih =>
    have em : more i x (e :: r) = (if e.2.2 + x.1 <= x.2.1 then [(i + 1, e.2.1 + x.2.2, e.2.2 + x.1)] else []) ++ more i x r := by
      unfold more
      rw [List.filter_cons]
      by_cases q : e.2.2 + x.1 <= x.2.1 <;> simp [q]
    rw [em, sel_app, ih]
    by_cases hw : w < x.2.2
    . rw [if_pos hw, if_pos hw, List.append_nil]
      by_cases q : e.2.2 + x.1 <= x.2.1
      . have : ¬ e.2.1 + x.2.2 = w := by omega
        simp [q, sel, this]
      . simp [q, sel]
    . rw [if_neg hw, if_neg hw]
      have ec : sel (w - x.2.2) (e :: r) = (if e.2.1 = w - x.2.2 then [e.2.2] else []) ++ sel (w - x.2.2) r := by
        unfold sel
        rw [List.filter_cons]
        by_cases q : e.2.1 = w - x.2.2 <;> simp [q]
      rw [ec, List.map_append, List.filter_append]
      congr 1
      by_cases q1 : e.2.2 + x.1 <= x.2.1
      . by_cases q2 : e.2.1 = w - x.2.2
        . have e3 : w - x.2.2 + x.2.2 = w := Nat.sub_add_cancel (Nat.le_of_not_lt hw)
          simp [q1, q2, sel, e3]
        . have : ¬ e.2.1 + x.2.2 = w := by omega
          simp [q1, q2, sel, this]
      . by_cases q2 : e.2.1 = w - x.2.2 <;> simp [q1, q2, sel]
def nextR (x : Wx) (f : Nat -> Option Int) (w : Nat) : Option Int := comb (f w) (if w < x.2.2 then none else behind x.1 x.2.1 (f (w - x.2.2)))
theorem next_min {c : Int} {L : List Wx} {i : Nat} {x : Wx} (hx : L[i]? = some x) {f : Nat -> Option Int} {w : Nat} (h : IsMin (sel w (foundTo c L i)) (f w)) (h' : ¬ w < x.2.2 -> IsMin (sel (w - x.2.2) (foundTo c L i)) (f (w - x.2.2))) : IsMin (sel w (foundTo c L (i + 1))) (nextR x f w) := by
  have e : foundTo c L (i + 1) = foundTo c L i ++ more i x (foundTo c L i) := by rw [foundTo, hx]
  rw [e, sel_app, sel_more]
  unfold nextR
  refine h.comb ?_
  by_cases q : w < x.2.2
  . rw [if_pos q, if_pos q]; exact isMin_nil
  . rw [if_neg q, if_neg q]; exact (h' q).behind _ _
end Lt
namespace T39
open PySem L2 Bd
open Lt (IsMin comb behind nextR sel foundTo Wx)
theorem wp_catI {is js : List I} {hd : Hd} {QE : D -> Hd -> Prop} (h0 : is ≠ []) (h1 : is.length + js.length <= 100) (q : QE (.im (.tup (is ++ js))) hd) : WP (gAddA (.im (.tup is)) (.im (.tup js)) hd) QE := by
  have cat : catOk (is.map D.im) (js.map D.im) := ⟨by simpa using h0, fits_of (by simp; omega)⟩
  refine WP.eq (z := .im (.tup (is ++ js))) (h := hd) ?_ q
  show (match gAdd (.im (.tup is)) (.im (.tup js)) hd with | some z => some z | none => gCatT (.im (.tup is)) (.im (.tup js)) hd) = _
  rw [show gAdd (.im (.tup is)) (.im (.tup js)) hd = none from rfl]
  unfold gCatT
  rw [show tupView (.im (.tup is)) = some (is.map D.im) from rfl, show tupView (.im (.tup js)) = some (js.map D.im) from rfl, Option.bind_some, Option.bind_some, if_pos cat, <- List.map_append, mkTup_im]
theorem we_callL {w : Nat} {F : List D -> Hd -> Option (D × Hd)} {m : MA} {ls : Ls} {hd pre rest : Hd} {ds : List D} {QE : D -> Hd -> Prop} (e : m ls hd = some (ds, pre ++ rest)) (hw : pre.length = w) (hc : clDs w ds = true) (hp : pre.all (clO w) = true)
    (hF : WF F ds pre λ d x => ∃ k es pre' g, d = .mu k /\ w <= k /\ x = pre' ++ g /\ pre'.length = w /\ pre'.all (clO w) = true /\ x[k]? = some (.lst es) /\ clDs w es = true /\ QE (.mu (w + rest.length)) (pre' ++ rest ++ [.lst es])) : WE (mCallW w F m) ls hd QE := by
  subst hw
  obtain ⟨d, x, e2, k, es, pre', g, rfl, hk, rfl, lp, cp, e3, c3, q⟩ := hF
  refine ⟨_, _, ?_, q⟩
  have t1 : (pre ++ rest).take pre.length = pre := by simp
  have t2 : (pre' ++ g).take pre.length = pre' := by rw [<- lp]; simp
  have t3 : ¬ k < pre.length := by omega
  simp only [mCallW, e, Option.bind_some, t1, hc, hp, e2, fin, t2, cp, if_neg t3, e3, c3, if_true]
  simp
theorem we_callLW {w : Nat} {F : List D -> Hd -> Option (D × Hd)} {m : MA} {ls : Ls} {hd : Hd} {QE : D -> Hd -> Prop} (h : WA m ls hd λ ds x => ∃ pre rest, x = pre ++ rest /\ pre.length = w /\ clDs w ds = true /\ pre.all (clO w) = true /\ WF F ds pre λ d x => ∃ k es pre' g, d = .mu k /\ w <= k /\ x = pre' ++ g /\ pre'.length = w /\ pre'.all (clO w) = true /\ x[k]? = some (.lst es) /\ clDs w es = true /\ QE (.mu (w + rest.length)) (pre' ++ rest ++ [.lst es])) : WE (mCallW w F m) ls hd QE := by
  obtain ⟨ds, x, e, pre, rest, rfl, hw, hc, hp, hF⟩ := h
  exact we_callL e hw hc hp hF
def optI : Option Int -> I | none => .non | some x => .int x
abbrev optD (o : Option Int) : D := .im (optI o)
theorem we_isN {neg : Bool} {ma : ME} {ls : Ls} {hd : Hd} {QE : D -> Hd -> Prop} (h : WE ma ls hd λ d x => ∃ o : Option Int, d = optD o /\ QE (.im (.bl (if o.isNone then !neg else neg))) x) : WE (mIsN neg ma) ls hd QE := by
  obtain ⟨d, x, e, o, rfl, q⟩ := h
  refine ⟨_, x, ?_, q⟩
  simp only [mIsN, e, Option.bind_some]
  cases o <;> rfl
def rowI (N : Nat) (f : Nat -> Option Int) : I := .tup ((List.range N).map λ w => optI (f w))
theorem row_at {N : Nat} {f : Nat -> Option Int} {w : Nat} (hw : w < N) : atI (((List.range N).map λ w => optI (f w)).map D.im) (w : Int) = some (optD (f w)) := at_k rfl (by simp [hw])
def wx (p : Wm) : Wx := (p.len, p.due, p.wt.toNat)
theorem put_w {B c : Int} {p : Wm} (ok : okM B c p) {N : Nat} (f : Nat -> Option Int) {w : Nat} (hw : w < N) : WF F_put_behind [.im (rowI N f), wmD p, .im (.int (w : Int))] [] λ d x => d = optD (if w < (wx p).2.2 then none else behind (wx p).1 (wx p).2.1 (f (w - (wx p).2.2))) := by
  have h0 := ok.2.2.2
  unfold F_put_behind
  refine wf_mk rfl ?_
  refine ws_seq (ws_asg (we_var rfl ⟨[some (.im (rowI N f)), some (wmD p), some (.im (.int (w : Int))), some (.im (.int p.len)), some (.im (.int p.com)), some (.im (.str "miss")), some (.im (.int p.due)), some (.im (.int p.wt)), none], rfl, thenS_nx ?_⟩))
  refine ws_seq (ws_ifn (wt_or (wt_test (we_op (we_var rfl (we_var rfl (wp_lt ⟨_, rfl, ?_⟩)))))))
  by_cases q : w < (wx p).2.2
  . have q' : (w : Int) < p.wt := by unfold wx at q; dsimp only at q; omega
    rw [if_pos (by simpa using q'), if_pos q]
    exact ⟨λ _ => ws_ret (we_c rfl), λ h => by cases h⟩
  . have q' : ¬ (w : Int) < p.wt := by unfold wx at q; dsimp only at q; omega
    rw [if_neg (by simpa using q'), if_neg q]
    have ek : (w : Int) - p.wt = ((w - (wx p).2.2 : Nat) : Int) := by unfold wx at q ⊢; dsimp only at q ⊢; omega
    have hk : w - (wx p).2.2 < N := by omega
    refine wt_test (we_isN (we_op (we_var rfl (we_op (we_var rfl (we_var rfl (wp_sub ?_)))))))
    rw [ek]
    refine wp_ix rfl (row_at hk) ⟨_, rfl, _, rfl, λ h => ?_, λ h => ws_next (thenS_nx ?_)⟩
    . have e : f (w - (wx p).2.2) = none := by
        cases e : f (w - (wx p).2.2) with
        | none => rfl
        | some x => rw [e] at h; simp at h
      refine ws_ret (we_c ?_)
      rw [e]; rfl
    . obtain ⟨x, e⟩ : ∃ x, f (w - (wx p).2.2) = some x := by
        cases e : f (w - (wx p).2.2) with
        | none => rw [e] at h; simp at h
        | some x => exact ⟨x, rfl⟩
      refine ws_seq (ws_set (we_op (we_op (we_var rfl (we_op (we_var rfl (we_var rfl (wp_sub ?_))))))))
      rw [ek]
      refine wp_ix rfl (row_at hk) ?_
      rw [e]
      refine we_var rfl (wp_add (thenS_nx (ws_ret (we_ifn (wt_test (we_op (we_var rfl (we_var rfl (wp_le ⟨_, rfl, λ h => ?_, λ h => ?_⟩)))))))))
      . have h : x + p.len <= p.due := by simpa using h
        refine we_var rfl ?_
        unfold behind wx
        dsimp only
        rw [if_pos h]; rfl
      . have h : ¬ x + p.len <= p.due := by simpa using h
        refine we_c ?_
        unfold behind wx
        dsimp only
        rw [if_neg h]; rfl
def nm (one other : Option Int) : Bool := match other with | none => true | some y => match one with | some x => decide (x <= y) | none => false
theorem comb_nm (a b : Option Int) : comb a b = if nm a b = true then a else b := by
  cases b with
  | none => simp [comb, nm]
  | some y =>
    cases a with
    | none => simp [comb, nm]
    | some x => simp [comb, nm]
theorem no_more_w (a b : Option Int) : WF F_no_more [optD a, optD b] [] λ d x => d = .im (.bl (nm a b)) := by
  unfold F_no_more
  refine wf_mk rfl ?_
  refine ws_ret (we_orV (wt_test (we_isN (we_var rfl ⟨b, rfl, _, rfl, ?_⟩))))
  cases b with
  | none => rfl
  | some y =>
    rw [if_neg (by simp)]
    refine we_andV (wt_test (we_isN (we_var rfl ⟨a, rfl, _, rfl, ?_⟩)))
    cases a with
    | none => rfl
    | some x =>
      rw [if_pos (by simp)]
      exact we_op (we_var rfl (we_var rfl (wp_le rfl)))
theorem next_row_w {B c : Int} {p : Wm} (ok : okM B c p) {N : Nat} (hN : N <= 100) (f : Nat -> Option Int) : WF F_next_row [.im (rowI N f), wmD p] [] λ d x => d = .im (rowI N (nextR (wx p) f)) := by
  unfold F_next_row
  refine wf_mk rfl ?_
  refine ws_seq (ws_set (we_new (wa_lst (wa_nil ⟨fits_0, thenS_nx ?_⟩))))
  refine ws_seq (ws_for (wi_enum (wi_T (we_var rfl ⟨((List.range N).map λ w => optI (f w)).map D.im, rfl, ?_⟩))))
  change WP (mLoop _ _ _ (((((List.range N).map λ w => optI (f w)).map D.im).zipIdx 0).map enD) [some (.im (rowI N f)), some (wmD p), some (.mu 0), none, none, none] [.lst []]) _
  have e0 : ((List.range N).map λ w => optI (f w)).map D.im = (List.range' 0 (N - 0)).map λ w => optD (f w) := by rw [List.map_map, List.range_eq_range', Nat.sub_zero]; rfl
  rw [e0]
  refine wl_inv (λ r ls hd => ∃ (j : Nat) (z3 z4 z5 : Option D), j <= N /\ r = (((List.range' j (N - j)).map λ w => optD (f w)).zipIdx j).map enD /\ ls = [some (.im (rowI N f)), some (wmD p), some (.mu 0), z3, z4, z5] /\ hd = [.lst ((List.range j).map λ w => optD (nextR (wx p) f w))]) ⟨0, none, none, none, by omega, rfl, rfl, rfl⟩ ?_ ?_
  . rintro d r ls hd ⟨j, z3, z4, z5, hj, er, rfl, rfl⟩
    obtain ⟨m, hm⟩ : ∃ m, N - j = m + 1 := by
      cases q : N - j with
      | zero => rw [q] at er; cases er
      | succ m => exact ⟨m, rfl⟩
    rw [hm, List.range'_succ, List.map_cons, List.zipIdx_cons, List.map_cons] at er
    obtain ⟨rfl, rfl⟩ := List.cons.inj er
    refine ⟨[some (.im (rowI N f)), some (wmD p), some (.mu 0), some (.im (.int (j : Int))), some (optD (f j)), z5], rfl, ?_⟩
    refine ws_seq (ws_set (we_call0 (wa_cons (we_var rfl (wa_cons (we_var rfl (wa_cons (we_var rfl (wa_nil ⟨by simp [wmI, rowI], (put_w ok f (by omega)).mono ?_⟩)))))))))
    rintro d x rfl
    refine ⟨_, rfl, thenS_nx ?_⟩
    refine ws_drop (we_mt (we_var rfl ⟨⟨_, rfl⟩, wa_cons (we_if (wt_tru (we_call0 (wa_cons (we_var rfl (wa_cons (we_var rfl (wa_nil ⟨by simp, (no_more_w _ _).mono ?_⟩))))))))⟩))
    rintro d x rfl
    refine ⟨_, rfl, _, rfl, ?_⟩
    have fin : ∀ o : Option Int, o = nextR (wx p) f j -> WA mNil [some (.im (rowI N f)), some (wmD p), some (.mu 0), some (.im (.int (j : Int))), some (optD (f j)), some (optD (if j < (wx p).2.2 then none else behind (wx p).1 (wx p).2.1 (f (j - (wx p).2.2))))] [.lst ((List.range j).map λ w => optD (nextR (wx p) f w))] λ ds y => WP (fAppend (.mu 0) (optD o :: ds) y) λ _ x => GOk x [] /\ ∃ (j' : Nat) (z3 z4 z5 : Option D), j' <= N /\ (((List.range' (j + 1) m).map λ w => optD (f w)).zipIdx (j + 1)).map enD = (((List.range' j' (N - j')).map λ w => optD (f w)).zipIdx j').map enD /\ [some (D.im (rowI N f)), some (wmD p), some (.mu 0), some (.im (.int (j : Int))), some (optD (f j)), some (optD (if j < (wx p).2.2 then none else behind (wx p).1 (wx p).2.1 (f (j - (wx p).2.2))))] = [some (.im (rowI N f)), some (wmD p), some (.mu 0), z3, z4, z5] /\ x = [.lst ((List.range j').map λ w => optD (nextR (wx p) f w))] := by
      rintro o rfl
      refine wa_nil (wp_app rfl (fitsL_of (by simp; omega)) ⟨gok_nil _, j + 1, _, _, _, by omega, by rw [show N - (j + 1) = m by omega], rfl, ?_⟩)
      rw [List.range_succ]; simp
    have ec : nextR (wx p) f j = if nm (f j) (if j < (wx p).2.2 then none else behind (wx p).1 (wx p).2.1 (f (j - (wx p).2.2))) = true then f j else (if j < (wx p).2.2 then none else behind (wx p).1 (wx p).2.1 (f (j - (wx p).2.2))) := by
      unfold nextR; rw [comb_nm]
    by_cases q : nm (f j) (if j < (wx p).2.2 then none else behind (wx p).1 (wx p).2.1 (f (j - (wx p).2.2))) = true
    . rw [if_pos q] at ec ⊢
      exact we_var rfl (fin _ ec.symm)
    . rw [if_neg q] at ec ⊢
      exact we_var rfl (fin _ ec.symm)
  . rintro ls hd ⟨j, z3, z4, z5, hj, er, rfl, rfl⟩
    have : j = N := by
      cases q : N - j with
      | zero => omega
      | succ m => rw [q] at er; cases er
    subst this
    refine thenS_nx (ws_ret (we_cb (wa_cons (we_var rfl (wa_nil (wp_f1 rfl rfl ?_))))))
    have e2 : ((List.range j).map λ w => optD (nextR (wx p) f w)) = ((List.range j).map λ w => optI (nextR (wx p) f w)).map D.im := by rw [List.map_map]; rfl
    rw [e2, mkTup_im]
    rfl
open Lt (IsMin comb behind nextR sel foundTo Wx)
def tabI (n N : Nat) (f : Nat -> Nat -> Option Int) : I := .tup ((List.range (n + 1)).map λ k => rowI N (f k))
def wxs (ws : List Wm) : List Wx := (ordI ws).map λ i => (ws[i.toNat]?.map wx).getD (0, 0, 0)
theorem ord_perm (ws : List Wm) : (ordI ws).Perm ((List.range ws.length).map λ k : Nat => (k : Int)) := by
  have p2 : (sortP (duePs ws)).Perm (duePs ws) := List.mergeSort_perm ..
  have := p2.map (·.2)
  unfold ordI
  refine this.trans ?_
  unfold duePs
  rw [List.map_map]
  exact .refl _
theorem ord_mem {ws : List Wm} {i : Int} (h : i ∈ ordI ws) : ∃ k : Nat, k < ws.length /\ i = k := by
  obtain ⟨k, hk, rfl⟩ := List.mem_map.mp ((ord_perm ws).mem_iff.mp h)
  exact ⟨k, by simpa using hk, rfl⟩
theorem ord_len (ws : List Wm) : (ordI ws).length = ws.length := by simpa using (ord_perm ws).length_eq
def fT (c : Int) (L : List Wx) : Nat -> Nat -> Option Int
  | 0, w => if w = 0 then some c else none
  | k + 1, w => match L[k]? with | some x => nextR x (fT c L k) w | none => none
theorem fT_min (c : Int) (L : List Wx) : ∀ k, k <= L.length -> ∀ w, IsMin (sel w (foundTo c L k)) (fT c L k w)
  | 0, _, w => by
    unfold fT foundTo sel
    by_cases h : w = 0
    . subst h; exact .inr ⟨c, by simp, by simp, by simp⟩
    . have : ¬ (0 = w) := λ z => h z.symm
      simp only [if_neg h]
      exact .inl ⟨rfl, by simp [this]⟩
  | k + 1, hk, w => by
    have hx : L[k]? = some L[k] := by simp [Nat.lt_of_succ_le hk]
    have ih := fT_min c L k (by omega)
    have e : fT c L (k + 1) w = nextR L[k] (fT c L k) w := by rw [fT, hx]
    rw [e]
    exact Lt.next_min hx (ih w) λ _ => ih _
theorem row0 (c : Int) (m : Nat) (L : List Wx) : [I.int c] ++ (List.replicate m [I.non]).flatten = (List.range (m + 1)).map λ w => optI (fT c L 0 w) := by
  have e1 : (List.replicate m [I.non]).flatten = List.replicate m I.non := by
    induction m with
    | zero => rfl
    | succ m ih => rw [List.replicate_succ, List.flatten_cons, ih, List.replicate_succ]; rfl
  rw [e1]
  refine List.ext_getElem (by simp) λ i h1 h2 => ?_
  simp only [List.getElem_map, List.getElem_range]
  cases i with
  | zero => rfl
  | succ i =>
    simp [fT, optI]
theorem full_le {B c : Int} {ws : List Wm} (ok : okMs B c ws) : 0 <= fullW ws /\ fullW ws <= 72 := by
  have : ∀ vs : List Wm, (∀ w ∈ vs, okM B c w) -> 0 <= fullW vs /\ fullW vs <= 9 * vs.length := by
    intro vs
    induction vs with
    | nil => intro _; simp [fullW]
    | cons v r ih =>
      intro h
      have := ih λ w hw => h w (by simp [hw])
      have := (h v (by simp)).2.2.2
      simp only [fullW, List.map_cons, List.sum_cons, List.length_cons] at *
      omega
  have := this ws ok.2.2.2
  have := ok.2.1
  omega
theorem table_of_w {B c : Int} {ws : List Wm} (ok : okMs B c ws) (hB : B <= 2000) : WF F_table_of [.im (wmsI ws)] [] λ d x => d = .im (tabI ws.length ((fullW ws).toNat + 1) (fT c (wxs ws))) := by
  have hl8 := ok.2.1
  have hf := full_le ok
  unfold F_table_of
  refine wf_mk rfl ?_
  refine ws_seq (ws_set (we_call0 (wa_cons (we_var rfl (wa_nil ⟨by simp, (late_w ok).mono ?_⟩)))))
  rintro d x rfl
  refine ⟨_, rfl, thenS_nx ?_⟩
  refine ws_seq (ws_set (we_new (wa_lst (wa_cons (we_op (we_tup (wa_cons (we_var rfl (wa_nil ⟨fits_1, ?_⟩)))))))))
  refine we_repT (we_tup (wa_cons (we_c (wa_nil ⟨fits_1, we_call0 (wa_cons (we_var rfl (wa_nil ⟨by simp, (full_w ok).mono ?_⟩)))⟩))))
  rintro d x rfl
  refine ⟨_, rfl, [.non], fullW ws, rfl, rfl, by simp, by omega, by simp; omega, ?_⟩
  rw [mkTup_1]
  refine wp_catI (by simp) (by simp; omega) ?_
  rw [row0 c _ (wxs ws)]
  refine wa_nil ⟨fits_1, thenS_nx ?_⟩
  change WS _ [some (.im (wmsI ws)), some (.im (.int c)), some (.mu 0), none] [.lst [.im (rowI ((fullW ws).toNat + 1) (fT c (wxs ws) 0))]] _
  refine ws_seq (ws_for (wi_L (we_callLW (wa_cons (we_var rfl (wa_nil ⟨[], [.lst [.im (rowI ((fullW ws).toNat + 1) (fT c (wxs ws) 0))]], rfl, rfl, by simp, rfl, (by_dues_w ok hB).mono ?_⟩))))))
  rintro d x ⟨rfl, rfl⟩
  refine ⟨0, _, [], _, rfl, Nat.le_refl _, rfl, rfl, rfl, rfl, clDs_ints _ _, 1, intD (ordI ws), rfl, rfl, ?_⟩
  refine wl_inv (λ r ls hd => ∃ (dn rest : List Int) (z3 : Option D), ordI ws = dn ++ rest /\ r = intD rest /\ ls = [some (.im (wmsI ws)), some (.im (.int c)), some (.mu 0), z3] /\ hd = [.lst ((List.range (dn.length + 1)).map λ k => D.im (rowI ((fullW ws).toNat + 1) (fT c (wxs ws) k))), .lst (intD (ordI ws))]) ⟨[], ordI ws, none, rfl, rfl, rfl, rfl⟩ ?_ ?_
  . rintro d r ls hd ⟨dn, rest, z3, e1, er, rfl, rfl⟩
    cases rest with
    | nil => cases er
    | cons i rest =>
      obtain ⟨rfl, rfl⟩ := List.cons.inj er
      obtain ⟨k, hk, rfl⟩ := ord_mem (ws := ws) (i := i) (by rw [e1]; simp)
      have hle : dn.length < ws.length := by have := ord_len ws; rw [e1] at this; simp at this; omega
      have ex : (wxs ws)[dn.length]? = some (wx ws[k]) := by
        unfold wxs
        rw [e1, List.getElem?_map, List.getElem?_append_right (Nat.le_refl _)]
        simp [hk]
      refine ⟨[some (.im (wmsI ws)), some (.im (.int c)), some (.mu 0), some (.im (.int (k : Int)))], rfl, ?_⟩
      refine ws_drop (we_mt (we_var rfl ⟨⟨_, rfl⟩, wa_cons (we_call0 (wa_cons (we_op (we_var rfl (we_neg (we_c ⟨_, rfl, wp_ix rfl (e := .im (rowI ((fullW ws).toNat + 1) (fT c (wxs ws) dn.length))) ?_ (wa_cons (we_op (we_var rfl (we_var rfl (wp_ix (by rw [sv_tup, im_wms]) (wm_at hk) (wa_nil ⟨by simp [wmI, rowI], (next_row_w (ok.2.2.2 _ (List.getElem_mem hk)) (by omega) _).mono ?_⟩))))))⟩))))))⟩))
      . rw [List.range_succ, List.map_append]
        exact atI_last _ _
      rintro d x rfl
      refine ⟨_, rfl, wa_nil (wp_app rfl (fitsL_of (by simp; omega)) ?_)⟩
      refine ⟨by intro q hq; rw [List.mem_singleton] at hq; subst hq; rfl, dn ++ [(k : Int)], rest, _, by rw [e1]; simp, rfl, rfl, ?_⟩
      have e2 : nextR (wx ws[k]) (fT c (wxs ws) dn.length) = fT c (wxs ws) (dn.length + 1) := by
        funext w
        rw [fT, ex]
      rw [e2]
      simp only [List.length_append, List.length_cons, List.length_nil, Nat.zero_add]
      rw [List.range_succ (n := dn.length + 1), List.map_append]
      rfl
  . rintro ls hd ⟨dn, rest, z3, e1, er, rfl, rfl⟩
    have : rest = [] := by cases rest with
      | nil => rfl
      | cons t r => cases er
    subst this
    rw [List.append_nil] at e1
    have hle : dn.length = ws.length := by rw [<- e1]; exact ord_len ws
    refine thenS_nx (ws_ret (we_cb (wa_cons (we_var rfl (wa_nil (wp_f1 rfl rfl ?_))))))
    have e2 : ((List.range (dn.length + 1)).map λ k => D.im (rowI ((fullW ws).toNat + 1) (fT c (wxs ws) k))) = ((List.range (dn.length + 1)).map λ k => rowI ((fullW ws).toNat + 1) (fT c (wxs ws) k)).map D.im := by rw [List.map_map]; rfl
    rw [e2, mkTup_im, hle]
    rfl
end T39
namespace Lt
theorem found_len {c : Int} {L : List Wx} : ∀ i, (foundTo c L i).length <= 2 ^ i
  | 0 => by simp [foundTo]
  | i + 1 => by
    have ih := found_len (c := c) (L := L) i
    rw [Nat.pow_succ]
    cases hx : L[i]? with
    | none =>
      have e : foundTo c L (i + 1) = foundTo c L i ++ [] := by rw [foundTo, hx]
      rw [e]; simp; omega
    | some w =>
      have e : foundTo c L (i + 1) = foundTo c L i ++ more i w (foundTo c L i) := by rw [foundTo, hx]
      have : (more i w (foundTo c L i)).length <= (foundTo c L i).length := by unfold more; rw [List.length_map]; exact List.length_filter_le _ _
      rw [e, List.length_append]; omega
theorem found_wt {c : Int} {L : List Wx} : ∀ {i : Nat} {e : En}, e ∈ foundTo c L i -> e.2.1 <= ((L.take i).map λ x => x.2.2).sum
  | 0, e, h => by simp [foundTo] at h; rw [h]; simp
  | i + 1, e, h => by
    rw [foundTo] at h
    have mono : ((L.take i).map λ x => x.2.2).sum <= ((L.take (i + 1)).map λ x => x.2.2).sum := by
      rw [List.take_succ, List.map_append, List.sum_append]; omega
    rcases List.mem_append.mp h with q | q
    . exact Nat.le_trans (found_wt q) mono
    . split at q
      . next w hw =>
        obtain ⟨z, hz, rfl⟩ := List.mem_map.mp q
        have := found_wt (List.mem_filter.mp hz).1
        have e : ((L[i]?.toList).map λ x : Wx => x.2.2).sum = w.2.2 := by rw [hw]; simp
        rw [List.take_succ, List.map_append, List.sum_append, e]
        dsimp only
        omega
      . cases q
end Lt
namespace T39
open PySem L2 Bd
open Lt (IsMin comb behind nextR sel foundTo Wx En more found_len)
theorem wa_cat {ma mb : ME} {ls : Ls} {hd : Hd} {QA : List D -> Hd -> Prop} (h : WE ma ls hd λ d x => WE mb ls x λ e y => ∃ p q as bs, d = .mu p /\ e = .mu q /\ y[p]? = some (.lst as) /\ y[q]? = some (.lst bs) /\ fits (as.length + bs.length) /\ QA (as ++ bs) y) : WA (mCat ma mb) ls hd QA := by
  obtain ⟨d, x, e1, e, y, e2, p, q, as, bs, rfl, rfl, e3, e4, c, h⟩ := h
  refine ⟨_, _, ?_, h⟩
  simp only [mCat, e1, Option.bind_some, e2]
  simp only [e3, e4, c, if_true]
abbrev enT (z : En × Nat) : D := mkTup [.im (.int (z.1.1 : Int)), .im (.int (z.1.2.1 : Int)), .im (.int z.1.2.2), .mu z.2]
def Refs (x : Hd) (qs : List Nat) (b : Nat) : Prop := ∀ q ∈ qs, ∃ ds, x[q]? = some (.lst ds) /\ ds.length <= b
theorem app_at {x : Hd} {q : Nat} {o : MO} (e : x[q]? = some o) (g : Hd) : (x ++ g)[q]? = some o := by
  rw [List.getElem?_append_left (List.getElem?_eq_some_iff.mp e).1]; exact e
theorem Refs.app {x : Hd} {qs : List Nat} {b : Nat} (h : Refs x qs b) (g : Hd) : Refs (x ++ g) qs b := λ q hq => by
  obtain ⟨ds, e, l⟩ := h q hq
  exact ⟨ds, app_at e g, l⟩
theorem new_at (x : Hd) (o : MO) (g : Hd) : (x ++ (o :: g))[x.length]? = some o := by simp
theorem filtT (E : List (En × Nat)) (p : En × Nat -> Prop) [DecidablePred p] : (E.filterMap λ z => if p z then some (enT z) else none) = (E.filter λ z => decide (p z)).map enT := by
  induction E with
  | nil => rfl
  | cons x r ih =>
    rw [List.filterMap_cons, List.filter_cons]
    by_cases h : p x
    . simp [h, ih]
    . simp [h, ih]
theorem zip_more (i : Nat) (x : Wx) : ∀ (E : List En) (qs : List Nat), qs.length = E.length -> ((E.zip qs).filter λ z => decide (z.1.2.2 + x.1 <= x.2.1)).map (λ z => ((i + 1, z.1.2.1 + x.2.2, z.1.2.2 + x.1) : En)) = more i x E
  | [], _, _ => by simp [more]
  | e :: r, [], h => by simp at h
  | e :: r, q :: qs, h => by
    have ih := zip_more i x r qs (by simpa using h)
    unfold more at ih ⊢
    rw [List.zip_cons_cons, List.filter_cons, List.filter_cons]
    by_cases c : e.2.2 + x.1 <= x.2.1
    . simp [c, ih]
    . simp [c, ih]
theorem pow8 {i : Nat} (h : i <= 8) : 2 ^ i <= 256 := Nat.le_trans (Nat.pow_le_pow_right (by decide) h) (by decide)
set_option maxHeartbeats 1000000 in
theorem sets_w {B c : Int} {ws : List Wm} (ok : okMs B c ws) (hB : B <= 2000) (H0 : Hd) : WF F_sets [.im (wmsI ws)] H0 λ d x => ∃ (L : Nat) (rest : Hd) (qs : List Nat), d = .mu L /\ H0.length <= L /\ x = H0 ++ rest /\ qs.length = (foundTo c (wxs ws) ws.length).length /\ x[L]? = some (.lst (((foundTo c (wxs ws) ws.length).zip qs).map enT)) := by
  obtain ⟨hne, hl8, hc, hws⟩ := id ok
  have hl0 : 0 < ws.length := len_pos hne
  unfold F_sets
  refine wf_mk rfl ?_
  refine ws_seq (ws_set (we_new (wa_lst (wa_cons (we_tup (wa_cons (we_c (wa_cons (we_c (wa_cons (we_op (we_op (we_var rfl (we_c (wp_ix (by rw [sv_tup, im_wms]) (wm_at (k := 0) hl0) (we_c (wp_ix (ds := [.im (.int (ws[0]).len), .im (.int (ws[0]).com), .im (.tup [.str "miss", .int (ws[0]).due, .int (ws[0]).wt])]) rfl (at_1 _ _ _) (wa_cons (we_new (wa_lst (wa_nil ⟨fits_0, wa_nil ⟨fits_4, wa_nil ⟨fits_1, thenS_nx ?_⟩⟩⟩)))))))))))))))))))))
  rw [(hws _ (List.getElem_mem hl0)).2.1]
  refine ws_seq (ws_for (wi_enum (wi_L (we_callLW (wa_cons (we_var rfl (wa_nil ⟨[], _, rfl, rfl, by simp, rfl, (lby_dues_w ok hB).mono ?_⟩)))))))
  rintro d x ⟨rfl, rfl⟩
  refine ⟨0, _, [], _, rfl, Nat.le_refl _, rfl, rfl, rfl, rfl, clDs_ints _ _, H0.length + 2, intD (ordI ws), by simp, ?_, ?_⟩
  . simp
  have e0 : H0 ++ [MO.lst []] ++ [MO.lst [enT ((0, 0, c), H0.length)]] ++ [MO.lst (intD (ordI ws))] = H0 ++ [MO.lst [], .lst [enT ((0, 0, c), H0.length)], .lst (intD (ordI ws))] := by simp
  have gO : ∀ g : Hd, GOk (H0 ++ ([MO.lst [], .lst [enT ((0, 0, c), H0.length)], .lst (intD (ordI ws))] ++ g)) [(H0.length + 2, intD (ordI ws))] := by
    intro g q hq; rw [List.mem_singleton] at hq; subst hq; simp
  refine wl_inv (λ r ls hd => ∃ (dn rest : List Int) (L : Nat) (g : Hd) (qs : List Nat) (z2 z3 z4 z5 z6 z7 : Option D), ordI ws = dn ++ rest /\ r = ((intD rest).zipIdx dn.length).map enD /\ ls = [some (.im (wmsI ws)), some (.mu L), z2, z3, z4, z5, z6, z7] /\ H0.length <= L /\ hd = H0 ++ ([MO.lst [], .lst [enT ((0, 0, c), H0.length)], .lst (intD (ordI ws))] ++ g) /\ qs.length = (foundTo c (wxs ws) dn.length).length /\ hd[L]? = some (.lst (((foundTo c (wxs ws) dn.length).zip qs).map enT)) /\ Refs hd qs dn.length) ⟨[], ordI ws, H0.length + 1, [], [H0.length], none, none, none, none, none, none, rfl, rfl, by simp, by omega, by simp; rfl, rfl, ?_, ?_⟩ ?_ ?_
  . simp [foundTo]; rfl
  . intro q hq; rw [List.mem_singleton] at hq; subst hq; exact ⟨[], by simp, by simp⟩
  . rintro d r ls hd ⟨dn, rest, L, g, qs, z2, z3, z4, z5, z6, z7, e1, er, rfl, hL, ehd, hq, hE, hR⟩
    cases rest with
    | nil => cases er
    | cons i rest =>
      rw [show intD (i :: rest) = .im (.int i) :: intD rest from rfl, List.zipIdx_cons, List.map_cons] at er
      obtain ⟨rfl, rfl⟩ := List.cons.inj er
      obtain ⟨k, hk, rfl⟩ := ord_mem (ws := ws) (i := i) (by rw [e1]; simp)
      have hle : dn.length < ws.length := by have := ord_len ws; rw [e1] at this; simp at this; omega
      have ex : (wxs ws)[dn.length]? = some (wx ws[k]) := by
        unfold wxs
        rw [e1, List.getElem?_map, List.getElem?_append_right (Nat.le_refl _)]
        simp [hk]
      have okk := hws _ (List.getElem_mem hk)
      have eF : foundTo c (wxs ws) (dn.length + 1) = foundTo c (wxs ws) dn.length ++ more dn.length (wx ws[k]) (foundTo c (wxs ws) dn.length) := by rw [foundTo, ex]
      have lenE := found_len (c := c) (L := wxs ws) dn.length
      have p8 := pow8 (i := dn.length) (by omega)
      generalize hEE : foundTo c (wxs ws) dn.length = E at *
      generalize hp : ws[k] = p at *
      subst ehd
      generalize hX : H0 ++ ([MO.lst [], .lst [enT ((0, 0, c), H0.length)], .lst (intD (ordI ws))] ++ g) = X at *
      refine ⟨[some (.im (wmsI ws)), some (.mu L), some (.im (.int (dn.length : Int))), some (.im (.int (k : Int))), z4, z5, z6, z7], rfl, ?_⟩
      refine ws_seq (ws_asg (we_op (we_var rfl (we_var rfl (wp_ix (by rw [sv_tup, im_wms]) (wm_at hk) ?_)))))
      rw [hp]
      refine ⟨[some (.im (wmsI ws)), some (.mu L), some (.im (.int (dn.length : Int))), some (.im (.int (k : Int))), some (.im (.int p.len)), some (.im (.int p.com)), some (.im (.tup [.str "miss", .int p.due, .int p.wt])), z7], rfl, thenS_nx ?_⟩
      have lz : (E.zip qs).length = E.length := by rw [List.length_zip, hq, Nat.min_self]
      refine ws_seq (ws_set (we_new (wa_comp (wi_L (we_var rfl ⟨L, _, rfl, hE, fits_of (by rw [List.length_map, lz]; omega), ?_⟩)))))
      refine wc_map enT (λ z => if z.1.2.2 + p.len <= p.due then some (enT z) else none) (λ _ ls => ∃ x, ls = [some x, some (.im (.int p.len)), some (.im (.tup [.str "miss", .int p.due, .int p.wt]))]) _ (by intro q hq; rw [List.mem_singleton] at hq; subst hq; exact hE) ?_ ?_
      . rintro z hz ls hls
        refine ⟨[some (enT z), some (.im (.int p.len)), some (.im (.tup [.str "miss", .int p.due, .int p.wt]))], by rcases hls with rfl | ⟨_, x, rfl⟩ <;> rfl, ⟨_, rfl⟩, ?_⟩
        refine wt_test (we_op (we_op (we_op (we_var rfl (we_c (wp_ix rfl (at_2 _ _ _ _) (we_var rfl (wp_add (we_op (we_var rfl (we_c (wp_ix (ds := [.im (.str "miss"), .im (.int p.due), .im (.int p.wt)]) rfl (at_1 _ _ _) (wp_le ⟨_, rfl, rfl, ?_⟩)))))))))))))
        by_cases q : z.1.2.2 + p.len <= p.due
        . rw [if_pos (by simpa using q)]
          exact ⟨_, if_pos q, we_var rfl ⟨rfl, rfl⟩⟩
        . rw [if_neg (by simpa using q)]
          exact if_neg q
      rw [filtT]
      generalize hFF : (E.zip qs).filter (λ z => decide (z.1.2.2 + p.len <= p.due)) = F
      have hFm : ∀ z ∈ F, z.2 ∈ qs := λ z hz => by
        rw [<- hFF] at hz
        exact (List.of_mem_zip (List.mem_filter.mp hz).1).2
      have hFl : F.length <= E.length := by rw [<- hFF, <- lz]; exact List.length_filter_le _ _
      refine thenS_nx ?_
      change WS _ [some (.im (wmsI ws)), some (.mu L), some (.im (.int (dn.length : Int))), some (.im (.int (k : Int))), some (.im (.int p.len)), some (.im (.int p.com)), some (.im (.tup [.str "miss", .int p.due, .int p.wt])), some (.mu X.length)] (X ++ [.lst (F.map enT)]) _
      have hXF : ∀ g' : Hd, (X ++ [MO.lst (F.map enT)] ++ g')[X.length]? = some (.lst (F.map enT)) := λ g' => by rw [List.append_assoc]; exact new_at X _ g'
      refine ws_set (we_new (wa_cat (we_var rfl (we_new (wa_comp (wi_L (we_var rfl ⟨X.length, F.map enT, rfl, by simpa using hXF [], fits_of (by rw [List.length_map]; omega), ?_⟩)))))))
      refine wc_to (λ r' es ls hd => ∃ (dn' rest' : List (En × Nat)) (qs' : List Nat) (g' : Hd) (z : Option D), F = dn' ++ rest' /\ r' = rest'.map enT /\ qs'.length = dn'.length /\ es = ((dn'.map λ z => ((dn.length + 1, z.1.2.1 + (wx p).2.2, z.1.2.2 + (wx p).1) : En)).zip qs').map enT /\ ls = [z, some (.im (.int (dn.length : Int))), some (.im (.tup [.str "miss", .int p.due, .int p.wt])), some (.im (.int p.len)), some (.im (.int (k : Int)))] /\ hd = X ++ [.lst (F.map enT)] ++ g' /\ Refs hd qs' (dn.length + 1)) ⟨[], F, [], [], none, rfl, rfl, rfl, rfl, rfl, by simp, λ q hq => by cases hq⟩ ?_ ?_
      . rintro d r' es ls hd ⟨dn', rest', qs', g', z, e2, e3, lq, rfl, rfl, rfl, R'⟩
        cases rest' with
        | nil => cases e3
        | cons y rest' =>
          obtain ⟨rfl, rfl⟩ := List.cons.inj e3
          obtain ⟨ds, ed, ld⟩ := hR y.2 (hFm y (by rw [e2]; simp))
          refine ⟨[some (enT y), some (.im (.int (dn.length : Int))), some (.im (.tup [.str "miss", .int p.due, .int p.wt])), some (.im (.int p.len)), some (.im (.int (k : Int)))], rfl, wt_yes ?_⟩
          rw [if_pos rfl]
          refine we_tup (wa_cons (we_op (we_var rfl (we_c (wp_add (wa_cons (we_op (we_op (we_var rfl (we_c (wp_ix rfl (at_1 _ _ _) (we_op (we_var rfl (we_c (wp_ix (ds := [.im (.str "miss"), .im (.int p.due), .im (.int p.wt)]) rfl (at_2 _ _ _ _) (wp_add (wa_cons (we_op (we_op (we_var rfl (we_c (wp_ix rfl (at_2 _ _ _ _) (we_var rfl (wp_add (wa_cons (we_new (wa_cat (we_op (we_var rfl (we_c (wp_ix rfl (e := .mu y.2) rfl (we_new (wa_lst (wa_cons (we_var rfl (wa_nil ⟨fits_1, ?_⟩))))))))))))))))))))))))))))))))))))
          have ed' : (X ++ [MO.lst (F.map enT)] ++ g' ++ [MO.lst [.im (.int (k : Int))]])[y.2]? = some (.lst ds) := by
            rw [List.append_assoc, List.append_assoc]; exact app_at ed _
          refine ⟨y.2, _, ds, [.im (.int (k : Int))], rfl, rfl, ed', new_at _ _ [], fits_of (by simp; omega), wa_nil ⟨fits_4, ?_⟩⟩
          have c1 : ((dn.length : Int) + 1) = ((dn.length + 1 : Nat) : Int) := by omega
          have c2 : ((y.1.2.1 : Int) + p.wt) = ((y.1.2.1 + (wx p).2.2 : Nat) : Int) := by have := okk.2.2.2; unfold wx; dsimp only; omega
          rw [c1, c2]
          refine ⟨by intro q hq; rw [List.mem_singleton] at hq; subst hq; simpa using hXF (g' ++ [MO.lst [.im (.int (k : Int))], .lst (ds ++ [.im (.int (k : Int))])]), dn' ++ [y], rest', qs' ++ [(X ++ [MO.lst (F.map enT)] ++ g' ++ [MO.lst [.im (.int (k : Int))]]).length], g' ++ [MO.lst [.im (.int (k : Int))], .lst (ds ++ [.im (.int (k : Int))])], _, by rw [e2]; simp, rfl, by simp [lq], ?_, rfl, by simp, ?_⟩
          . rw [List.map_append, List.zip_append (by simp [lq]), List.map_append]
            rfl
          . intro q hq
            rcases List.mem_append.mp hq with q' | q'
            . have := (R'.app [MO.lst [.im (.int (k : Int))], .lst (ds ++ [.im (.int (k : Int))])]) q q'
              simpa using this
            . rw [List.mem_singleton] at q'
              subst q'
              exact ⟨ds ++ [.im (.int (k : Int))], new_at _ _ [], by simp; omega⟩
      rintro es ls hd ⟨dn', rest', qs', g', z, e2, e3, lq, rfl, rfl, rfl, R'⟩
      have er' : rest' = [] := by cases rest' with
        | nil => rfl
        | cons t r => cases e3
      subst er'
      rw [List.append_nil] at e2
      subst e2
      have eM : (F.map λ z => ((dn.length + 1, z.1.2.1 + (wx p).2.2, z.1.2.2 + (wx p).1) : En)) = more dn.length (wx p) E := by
        rw [<- hFF]; exact zip_more dn.length (wx p) E qs hq
      rw [eM]
      have lM : qs'.length = (more dn.length (wx p) E).length := by rw [<- eM, List.length_map]; exact lq
      generalize hY : X ++ [MO.lst (F.map enT)] ++ g' = Y at *
      have eL : (Y ++ [MO.lst (((more dn.length (wx p) E).zip qs').map enT)])[L]? = some (.lst ((E.zip qs).map enT)) := by
        rw [<- hY, List.append_assoc, List.append_assoc]; exact app_at hE _
      refine ⟨L, Y.length, _, _, rfl, rfl, eL, new_at Y _ [], fits_of (by rw [List.length_map, List.length_map, lz, List.length_zip, lM, Nat.min_self]; have := hFl; rw [<- eM]; simp; omega), ?_⟩
      rw [<- List.map_append, <- List.zip_append (by rw [hq]), <- eF]
      have hfin : Y ++ [MO.lst (((more dn.length (wx p) E).zip qs').map enT)] ++ [MO.lst (((foundTo c (wxs ws) (dn.length + 1)).zip (qs ++ qs')).map enT)] = H0 ++ ([MO.lst [], .lst [enT ((0, 0, c), H0.length)], .lst (intD (ordI ws))] ++ (g ++ [MO.lst (F.map enT)] ++ g' ++ [MO.lst (((more dn.length (wx p) E).zip qs').map enT)] ++ [MO.lst (((foundTo c (wxs ws) (dn.length + 1)).zip (qs ++ qs')).map enT)])) := by
        rw [<- hY, <- hX]; simp
      have hlY : H0.length <= Y.length := by rw [<- hY, <- hX]; simp
      have R1 : Refs (Y ++ [MO.lst (((more dn.length (wx p) E).zip qs').map enT)] ++ [MO.lst (((foundTo c (wxs ws) (dn.length + 1)).zip (qs ++ qs')).map enT)]) (qs ++ qs') (dn.length + 1) := by
        intro q hq'
        rcases List.mem_append.mp hq' with q' | q'
        . obtain ⟨ds, ed, ld⟩ := hR q q'
          refine ⟨ds, ?_, by omega⟩
          rw [<- hY, List.append_assoc, List.append_assoc, List.append_assoc]; exact app_at ed _
        . obtain ⟨ds, ed, ld⟩ := R' q q'
          exact ⟨ds, by rw [List.append_assoc]; exact app_at ed _, ld⟩
      refine ⟨by rw [hfin]; exact gO _, dn ++ [(k : Int)], rest, (Y ++ [MO.lst (((more dn.length (wx p) E).zip qs').map enT)]).length, _, qs ++ qs', _, _, _, _, _, _, by rw [e1]; simp, by simp, rfl, by simp; omega, hfin, ?_, ?_, ?_⟩
      . rw [List.length_append, List.length_append, hq, lM]; simp only [List.length_append, List.length_cons, List.length_nil, Nat.zero_add]; rw [eF, List.length_append]
      . simp only [List.length_append (as := dn), List.length_cons, List.length_nil, Nat.zero_add]
        exact new_at _ _ []
      . simp only [List.length_append (as := dn), List.length_cons, List.length_nil, Nat.zero_add]
        exact R1
  . rintro ls hd ⟨dn, rest, L, g, qs, z2, z3, z4, z5, z6, z7, e1, er, rfl, hL, rfl, hq, hE, hR⟩
    have : rest = [] := by cases rest with
      | nil => rfl
      | cons t r => cases er
    subst this
    rw [List.append_nil] at e1
    have hle : dn.length = ws.length := by rw [<- e1]; exact ord_len ws
    rw [hle] at hq hE
    exact thenS_nx (ws_ret (we_var rfl ⟨L, _, qs, rfl, hL, rfl, hq, hE⟩))
open Lt (IsMin comb behind nextR sel foundTo Wx En found_len)
def lnOf (ws : List Wm) (k : Nat) : Int := (ws[k]?.map Wm.len).getD 0
theorem ln_at {ws : List Wm} {k : Nat} (hk : k < ws.length) : (ws[k]).len = lnOf ws k := by simp [lnOf, hk]
theorem psum {L M : List Int} (h : L.Perm M) : L.sum = M.sum := by
  induction h with
  | nil => rfl
  | cons x _ ih => simp [ih]
  | swap x y l => simp; omega
  | trans _ _ ih1 ih2 => exact ih1.trans ih2
abbrev lnI (ws : List Wm) (i : Int) : Int := lnOf ws i.toNat
theorem wa_sorted {mi : MI} {ls : Ls} {hd : Hd} {QA : List D -> Hd -> Prop} (h : WI mi ls hd λ p x => ∃ ns : List Int, p.1 = intD ns /\ ns.length < 64 /\ QA (intD (sortI ns)) x) : WA (mSorted mi) ls hd QA := by
  obtain ⟨p, x, e, ns, e1, hl, q⟩ := h
  refine ⟨_, _, ?_, q⟩
  simp only [mSorted, e, Option.bind_some, e1, intsD_int, hl, if_true]
theorem ord_nodup (ws : List Wm) : (ordI ws).Nodup := by
  refine (ord_perm ws).nodup_iff.mpr ?_
  refine List.Pairwise.map _ (λ a b h => ?_) List.nodup_range
  exact λ z => h (by omega)
def inT (ws : List Wm) : Int -> List Int -> Prop
  | _, [] => True
  | e, i :: r => e + lnI ws i <= dueOf ws i.toNat /\ inT ws (e + lnI ws i) r
abbrev tupD (ks : List Int) : D := .im (.tup (ks.map I.int))
theorem tup_D (ks : List Int) : (ks.map I.int).map D.im = intD ks := by simp [intD]
theorem is_set_w {n : Int} {ks : List Int} (hl : ks.length <= 100) (hb : ∀ k ∈ ks, 0 <= k /\ k < n) (hs : ks.Pairwise (· < ·)) : WF F_is_set [.im (.int n), tupD ks] [] λ d x => d = .im (.bl true) := by
  unfold F_is_set
  refine wf_mk rfl ?_
  refine ws_seq (ws_ifn (wt_not (wt_tru (we_isi (we_var rfl ⟨true, rfl, _, rfl, (λ h => by cases h), λ _ => ws_next (thenS_nx ?_)⟩)))))
  refine ws_seq (ws_for (wi_enum (wi_T (we_var rfl ⟨intD ks, by rw [<- tup_D]; rfl, ?_⟩))))
  change WP (mLoop _ _ _ (((intD ks).zipIdx 0).map enD) [some (.im (.int n)), some (tupD ks), none, none] []) _
  refine wl_inv (λ r ls hd => ∃ (dn rest : List Int) (z2 z3 : Option D), ks = dn ++ rest /\ r = ((intD rest).zipIdx dn.length).map enD /\ ls = [some (.im (.int n)), some (tupD ks), z2, z3] /\ hd = []) ⟨[], ks, none, none, rfl, rfl, rfl, rfl⟩ ?_ ?_
  . rintro d r ls hd ⟨dn, rest, z2, z3, e1, er, rfl, rfl⟩
    cases rest with
    | nil => cases er
    | cons i rest =>
      rw [show intD (i :: rest) = .im (.int i) :: intD rest from rfl, List.zipIdx_cons, List.map_cons] at er
      obtain ⟨rfl, rfl⟩ := List.cons.inj er
      obtain ⟨b0, b1⟩ := hb i (by rw [e1]; simp)
      refine ⟨[some (.im (.int n)), some (tupD ks), some (.im (.int (dn.length : Int))), some (.im (.int i))], rfl, ?_⟩
      refine ws_ifn (wt_or (wt_not (wt_tru (we_isi (we_var rfl ⟨true, rfl, _, rfl, ?_⟩)))))
      rw [if_neg (by simp)]
      refine wt_or (wt_tru (we_isi (we_var rfl ⟨false, rfl, _, rfl, ?_⟩)))
      rw [if_neg (by simp)]
      refine wt_or (wt_test (we_op (we_var rfl (we_c (wp_lt ⟨_, rfl, ?_⟩)))))
      rw [if_neg (by simpa using b0)]
      refine wt_or (wt_test (we_op (we_var rfl (we_var rfl (wp_ge ⟨_, rfl, ?_⟩)))))
      rw [if_neg (by simpa using b1)]
      refine wt_and (wt_test (we_op (we_var rfl (we_c (wp_gt ⟨_, rfl, ?_⟩)))))
      by_cases q : dn = []
      . subst q
        rw [if_neg (by simp)]
        exact ⟨(λ h => by cases h), λ _ => ws_next ⟨gok_nil _, [i], rest, _, _, e1, by simp, rfl, rfl⟩⟩
      . obtain ⟨dn', j, rfl⟩ : ∃ dn' j, dn = dn' ++ [j] := ⟨dn.dropLast, dn.getLast q, (List.dropLast_concat_getLast q).symm⟩
        rw [if_pos (by simp)]
        have hlt : j < i := by
          rw [e1] at hs
          exact (List.pairwise_append.mp hs).2.2 j (by simp) i (by simp)
        refine wt_test (we_op (we_op (we_var rfl (we_op (we_var rfl (we_c (wp_sub (wp_ix (e := .im (.int j)) rfl ?_ (we_var rfl (wp_ge ⟨_, rfl, (λ h => ?_), λ _ => ws_next ⟨gok_nil _, (dn' ++ [j]) ++ [i], rest, _, _, by rw [e1]; simp, by simp, rfl, rfl⟩⟩))))))))))
        . exact at_k (show ((dn' ++ [j]).length : Int) - 1 = (dn'.length : Int) by simp) (by rw [e1]; simp)
        . have := of_decide_eq_true h
          omega
  . rintro ls hd ⟨dn, rest, z2, z3, e1, er, rfl, rfl⟩
    exact thenS_nx (ws_ret (we_c rfl))
theorem filt_sub : ∀ {L M : List Int}, L.Nodup -> M.Sublist L -> L.filter (λ i => decide (i ∈ M)) = M := by
  intro L M nd s
  induction s with
  | slnil => rfl
  | cons a s ih =>
    obtain ⟨h1, h2⟩ := List.nodup_cons.mp nd
    rw [List.filter_cons, if_neg (by simpa using λ z => h1 (s.subset z))]
    exact ih h2
  | cons_cons a s ih =>
    rename_i M L
    obtain ⟨h1, h2⟩ := List.nodup_cons.mp nd
    rw [List.filter_cons, if_pos (by simp)]
    congr 1
    refine Eq.trans (List.filter_congr λ x hx => ?_) (ih h2)
    have : x ≠ a := λ z => h1 (z ▸ hx)
    simp [this]
theorem end_w {c : Int} {ws : List Wm} (ok : okMs 2000 c ws) {ns : List Int} (hs : ns.Sublist (ordI ws)) (hin : inT ws c ns) : WF F_end_in_time [.im (wmsI ws), tupD (sortI ns)] [] λ d x => d = .im (.int (c + (ns.map (lnI ws)).sum)) := by
  obtain ⟨hne, hl8, hc, hws⟩ := id ok
  have hl0 : 0 < ws.length := len_pos hne
  have e0 : (ws[0]).com = c := (hws _ (List.getElem_mem hl0)).2.1
  unfold F_end_in_time
  refine wf_mk rfl ?_
  refine ws_seq (ws_set (we_op (we_op (we_var rfl (we_c (wp_ix (by rw [sv_tup, im_wms]) (wm_at (k := 0) hl0) ?_))))))
  refine we_c (wp_ix (ds := [.im (.int (ws[0]).len), .im (.int (ws[0]).com), .im (.tup [.str "miss", .int (ws[0]).due, .int (ws[0]).wt])]) rfl (at_1 _ _ _) (thenS_nx ?_))
  rw [e0]
  change WS _ [some (.im (wmsI ws)), some (tupD (sortI ns)), some (.im (.int c)), none] [] _
  refine ws_seq (ws_for (wi_L (we_callLW (wa_cons (we_var rfl (wa_nil ⟨[], [], rfl, rfl, by simp, rfl, (lby_dues_w ok (by decide)).mono ?_⟩))))))
  rintro d x ⟨rfl, rfl⟩
  refine ⟨0, _, [], _, rfl, Nat.le_refl _, rfl, rfl, rfl, rfl, clDs_ints _ _, 0, intD (ordI ws), rfl, rfl, ?_⟩
  have hin0 : inT ws c ((ordI ws).filter λ i => decide (i ∈ ns)) := by rw [filt_sub (ord_nodup ws) hs]; exact hin
  refine wl_inv (λ r ls hd => ∃ (dn rest : List Int) (e : Int) (z3 : Option D), ordI ws = dn ++ rest /\ r = intD rest /\ ls = [some (.im (wmsI ws)), some (tupD (sortI ns)), some (.im (.int e)), z3] /\ hd = [.lst (intD (ordI ws))] /\ inT ws e (rest.filter λ i => decide (i ∈ ns)) /\ e + ((rest.filter λ i => decide (i ∈ ns)).map (lnI ws)).sum = c + (ns.map (lnI ws)).sum) ⟨[], ordI ws, c, none, rfl, rfl, rfl, rfl, hin0, by rw [filt_sub (ord_nodup ws) hs]⟩ ?_ ?_
  . rintro d r ls hd ⟨dn, rest, e, z3, e1, er, rfl, rfl, hi, hsm⟩
    cases rest with
    | nil => cases er
    | cons i rest =>
      obtain ⟨rfl, rfl⟩ := List.cons.inj er
      obtain ⟨k, hk, rfl⟩ := ord_mem (ws := ws) (i := i) (by rw [e1]; simp)
      have G : GOk [MO.lst (intD (ordI ws))] [(0, intD (ordI ws))] := by intro q hq; rw [List.mem_singleton] at hq; subst hq; rfl
      refine ⟨[some (.im (wmsI ws)), some (tupD (sortI ns)), some (.im (.int e)), some (.im (.int (k : Int)))], rfl, ?_⟩
      refine ws_ifn (wt_test (we_op (we_var rfl (we_var rfl (wp_inL (xs := sortI ns) (by rw [sv_tup, tup_D]) ⟨_, rfl, λ h => ?_, λ h => ?_⟩)))))
      . have h : (k : Int) ∈ ns := by
          have := of_decide_eq_true h
          exact (sortI_perm ns).mem_iff.mp this
        rw [List.filter_cons, if_pos (by simpa using h)] at hi hsm
        refine ws_seq (ws_set (we_op (we_var rfl (we_op (we_op (we_var rfl (we_var rfl (wp_ix (by rw [sv_tup, im_wms]) (wm_at hk) (we_c (wp_ix (ds := [.im (.int (ws[k]).len), .im (.int (ws[k]).com), .im (.tup [.str "miss", .int (ws[k]).due, .int (ws[k]).wt])]) rfl (at_0 _ _) (wp_add (thenS_nx ?_))))))))))))
        refine ws_ifn (wt_test (we_op (we_var rfl (we_op (we_op (we_op (we_var rfl (we_var rfl (wp_ix (by rw [sv_tup, im_wms]) (wm_at hk) (we_c (wp_ix (ds := [.im (.int (ws[k]).len), .im (.int (ws[k]).com), .im (.tup [.str "miss", .int (ws[k]).due, .int (ws[k]).wt])]) rfl (at_2 _ _ _ _) (we_c (wp_ix (ds := [.im (.str "miss"), .im (.int (ws[k]).due), .im (.int (ws[k]).wt)]) rfl (at_1 _ _ _) (wp_gt ⟨_, rfl, (λ h => ?_), λ _ => ws_next ⟨G, dn ++ [(k : Int)], rest, e + lnI ws k, some (.im (.int (k : Int))), by rw [e1]; simp, rfl, by rw [ln_at hk]; rfl, rfl, hi.2, by rw [List.map_cons, List.sum_cons] at hsm; omega⟩⟩))))))))))))))
        . have h := of_decide_eq_true h
          have h1 : e + lnI ws k <= dueOf ws k := hi.1
          rw [due_at hk, ln_at hk] at h
          have : lnI ws (k : Int) = lnOf ws k := rfl
          omega
      . have h : (k : Int) ∉ ns := λ z => by
          have := of_decide_eq_false h
          exact this ((sortI_perm ns).mem_iff.mpr z)
        rw [List.filter_cons, if_neg (by simpa using h)] at hi hsm
        exact ws_next ⟨G, dn ++ [(k : Int)], rest, e, _, by rw [e1]; simp, rfl, rfl, rfl, hi, hsm⟩
  . rintro ls hd ⟨dn, rest, e, z3, e1, er, rfl, rfl, hi, hsm⟩
    have : rest = [] := by cases rest with
      | nil => rfl
      | cons t r => cases er
    subst this
    have hsm : e = c + (ns.map (lnI ws)).sum := by simpa using hsm
    rw [<- hsm]
    exact thenS_nx (ws_ret (we_var rfl rfl))
theorem tab_at {n N : Nat} {f : Nat -> Nat -> Option Int} {k : Nat} (hk : k < n + 1) : atI (((List.range (n + 1)).map λ k => rowI N (f k)).map D.im) (k : Int) = some (.im (rowI N (f k))) := at_k rfl (by simp [hk])
theorem wp_neO {a b : Option Int} {hd : Hd} {QE : D -> Hd -> Prop} (q : QE (.im (.bl (!decide (a = b)))) hd) : WP (gNe (optD a) (optD b) hd) QE := by
  cases a with
  | none => cases b with
    | none => exact ⟨_, _, rfl, q⟩
    | some y => exact ⟨_, _, rfl, q⟩
  | some x => cases b with
    | none => exact ⟨_, _, rfl, q⟩
    | some y =>
      refine wp_neI ?_
      have : decide (some x = some y) = decide (x = y) := decide_eq_decide.mpr (by simp)
      rw [<- this]; exact q
def wtOf (ws : List Wm) (k : Nat) : Int := (ws[k]?.map Wm.wt).getD 0
abbrev wtI (ws : List Wm) (i : Int) : Int := wtOf ws i.toNat
theorem wt_at {ws : List Wm} {k : Nat} (hk : k < ws.length) : (ws[k]).wt = wtOf ws k := by simp [wtOf, hk]
def resT (c : Int) (ws : List Wm) (w : Int) : Option Int := if w < 0 ∨ fullW ws < w then none else fT c (wxs ws) ws.length w.toNat
theorem comb_ne {a b : Option Int} (h : comb a b ≠ a) : comb a b = b /\ ∃ y, b = some y := by
  cases b with
  | none => exact absurd (by cases a <;> rfl) h
  | some y =>
    rw [comb_nm] at h ⊢
    by_cases q : nm a (some y) = true
    . rw [if_pos q] at h; exact absurd rfl h
    . rw [if_neg q]; exact ⟨rfl, y, rfl⟩
theorem next_ne {x : Wx} {f : Nat -> Option Int} {w : Nat} {e : Int} (h1 : nextR x f w = some e) (h2 : nextR x f w ≠ f w) : x.2.2 <= w /\ ∃ y, f (w - x.2.2) = some y /\ e = y + x.1 /\ y + x.1 <= x.2.1 := by
  unfold nextR at h1 h2
  obtain ⟨h3, y, h4⟩ := comb_ne h2
  rw [h3] at h1
  by_cases q : w < x.2.2
  . rw [if_pos q] at h1; cases h1
  . rw [if_neg q] at h1
    refine ⟨by omega, ?_⟩
    cases hf : f (w - x.2.2) with
    | none => rw [hf] at h1; cases h1
    | some z =>
      rw [hf] at h1
      unfold behind at h1
      dsimp only at h1
      split at h1
      . next c => exact ⟨z, rfl, (Option.some.inj h1).symm, c⟩
      . cases h1
theorem sort_rev (ks : List Int) : sortI ks.reverse = sortI ks := by
  have p : (sortI ks.reverse).Perm (sortI ks) := (sortI_perm _).trans ((List.reverse_perm ks).trans (sortI_perm ks).symm)
  exact p.eq_of_pairwise (le := λ a b : Int => a <= b) (λ a b _ _ h1 h2 => by omega) (sortI_sorted _) (sortI_sorted _)
open Lt (IsMin comb behind nextR sel foundTo Wx En found_len)
theorem ws_aug {i : Nat} {g : Int -> Int -> Int} {m : ME} {ls : Ls} {hd : Hd} {x : Int} {Q : Fl -> Hd -> Prop} (e : ls[i]? = some (some (.im (.int x)))) (h : WE m ls hd λ d y => ∃ k, d = .im (.int k) /\ Q (.nx (ls.set i (some (.im (.int (g x k)))))) y) : WS (mAug i g m) ls hd Q := by
  obtain ⟨d, y, e1, k, rfl, q⟩ := h
  exact ⟨_, _, by unfold mAug; rw [e]; simp only [e1, Option.bind_some], q⟩
theorem mk_ints (L : List Int) : mkTup (intD L) = tupD L := by
  have : intD L = (L.map I.int).map D.im := by simp [intD]
  rw [this, mkTup_im]
set_option maxHeartbeats 1000000 in
theorem in_time_w {B c : Int} {ws : List Wm} (ok : okMs B c ws) (hB : B <= 2000) (w : Int) : WF F_in_time [.im (wmsI ws), .im (.int w)] [] λ d x => (resT c ws w = none /\ d = .im .non) ∨ ∃ ks : List Int, d = tupD (sortI ks) /\ ks.Sublist (ordI ws) /\ inT ws c ks /\ resT c ws w = some (c + (ks.map (lnI ws)).sum) /\ (ks.map (wtI ws)).sum = w := by
  have hl8 := ok.2.1
  have hf := full_le ok
  unfold F_in_time
  refine wf_mk rfl ?_
  refine ws_seq (ws_set (we_call0 (wa_cons (we_var rfl (wa_nil ⟨by simp, (table_of_w ok hB).mono ?_⟩)))))
  rintro d x rfl
  refine ⟨_, rfl, thenS_nx ?_⟩
  generalize hN : (fullW ws).toNat + 1 = N
  change WS _ [some (.im (wmsI ws)), some (.im (.int w)), some (.im (tabI ws.length N (fT c (wxs ws)))), none, none, none] [] _
  refine ws_seq (ws_ifn (wt_or (wt_test (we_op (we_var rfl (we_c (wp_lt ⟨_, rfl, ?_⟩)))))))
  by_cases h0 : w < 0
  . rw [if_pos (by simpa using h0)]
    exact ⟨λ _ => ws_ret (we_c (.inl ⟨if_pos (.inl h0), rfl⟩)), λ h => by cases h⟩
  rw [if_neg (by simpa using h0)]
  refine wt_or (wt_test (we_op (we_var rfl (we_call0 (wa_cons (we_var rfl (wa_nil ⟨by simp, (full_w ok).mono ?_⟩)))))))
  rintro d x rfl
  refine ⟨_, rfl, wp_gt ⟨_, rfl, ?_⟩⟩
  by_cases h1 : fullW ws < w
  . rw [if_pos (by simpa using h1)]
    exact ⟨λ _ => ws_ret (we_c (.inl ⟨if_pos (.inr h1), rfl⟩)), λ h => by cases h⟩
  rw [if_neg (by simpa using h1)]
  obtain ⟨u, rfl⟩ := Int.eq_ofNat_of_zero_le (show 0 <= w by omega)
  have er : resT c ws (u : Int) = fT c (wxs ws) ws.length u := by unfold resT; rw [if_neg (by omega)]; rfl
  have hu : u < N := by omega
  refine wt_test (we_isN (we_op (we_op (we_var rfl (we_neg (we_c ⟨_, rfl, wp_ix rfl (e := .im (rowI N (fT c (wxs ws) ws.length))) ?_ (we_var rfl (wp_ix rfl (row_at hu) ⟨_, rfl, _, rfl, λ h => ?_, λ h => ws_next (thenS_nx ?_)⟩))⟩))))))
  . rw [List.map_map, List.range_succ, List.map_append]
    exact atI_last _ _
  . have : fT c (wxs ws) ws.length u = none := by
      cases e : fT c (wxs ws) ws.length u with
      | none => rfl
      | some x => rw [e] at h; simp at h
    exact ws_ret (we_c (.inl ⟨by rw [er, this], rfl⟩))
  obtain ⟨e, he⟩ : ∃ e, fT c (wxs ws) ws.length u = some e := by
    cases e : fT c (wxs ws) ws.length u with
    | none => rw [e] at h; simp at h
    | some x => exact ⟨x, rfl⟩
  clear h
  refine ws_seq (ws_set (we_new (wa_lst (wa_nil ⟨fits_0, thenS_nx ?_⟩))))
  change WS _ [some (.im (wmsI ws)), some (.im (.int (u : Int))), some (.im (tabI ws.length N (fT c (wxs ws)))), some (.mu 0), none, none] [.lst []] _
  refine ws_seq (ws_for (wi_rev (wi_L (we_callLW (wa_cons (we_var rfl (wa_nil ⟨[], [.lst []], rfl, rfl, by simp, rfl, (by_dues_w ok hB).mono ?_⟩)))))))
  rintro d x ⟨rfl, rfl⟩
  refine ⟨0, _, [], _, rfl, Nat.le_refl _, rfl, rfl, rfl, rfl, clDs_ints _ _, 1, intD (ordI ws), rfl, rfl, ?_⟩
  refine wl_inv (λ r ls hd => ∃ (pre post ks : List Int) (v : Nat) (x : Int) (z4 z5 : Option D), ordI ws = pre ++ post /\ r = (((intD pre).zipIdx).map enD).reverse /\ ls = [some (.im (wmsI ws)), some (.im (.int (v : Int))), some (.im (tabI ws.length N (fT c (wxs ws)))), some (.mu 0), z4, z5] /\ hd = [.lst (intD ks.reverse), .lst (intD (ordI ws))] /\ ks.Sublist post /\ fT c (wxs ws) pre.length v = some x /\ inT ws x ks /\ x + (ks.map (lnI ws)).sum = e /\ (v : Int) + (ks.map (wtI ws)).sum = u /\ v <= u) ⟨ordI ws, [], [], u, e, none, none, by simp, rfl, rfl, rfl, .slnil, by rw [ord_len]; exact he, trivial, by simp, by simp, Nat.le_refl _⟩ ?_ ?_
  . rintro d r ls hd ⟨pre, post, ks, v, x, z4, z5, e1, er', rfl, rfl, sb, hx, hin, hs1, hs2, hv⟩
    rcases List.eq_nil_or_concat pre with rfl | ⟨p, i, epre⟩
    . cases er'
    . rw [List.concat_eq_append] at epre
      subst epre
      have e9 : (((intD (p ++ [i])).zipIdx).map enD).reverse = enD (.im (.int i), p.length) :: (((intD p).zipIdx).map enD).reverse := by simp [intD, List.zipIdx_append]
      obtain ⟨rfl, rfl⟩ := List.cons.inj (er'.trans e9)
      have e1' : ordI ws = p ++ i :: post := by rw [e1]; simp
      obtain ⟨k, hk, rfl⟩ := ord_mem (ws := ws) (i := i) (by rw [e1']; simp)
      have hlen := ord_len ws
      rw [e1'] at hlen
      simp only [List.length_append, List.length_cons] at hlen
      have hkl := sb.length_le
      have ex : (wxs ws)[p.length]? = some (wx ws[k]) := by
        unfold wxs
        rw [e1', List.getElem?_map, List.getElem?_append_right (Nat.le_refl _)]
        simp [hk]
      have e2 : nextR (wx ws[k]) (fT c (wxs ws) p.length) = fT c (wxs ws) (p.length + 1) := by
        funext w
        rw [fT, ex]
      have hx : fT c (wxs ws) (p.length + 1) v = some x := by simpa using hx
      have hvN : v < N := by omega
      have okk := ok.2.2.2 _ (List.getElem_mem hk)
      have G : ∀ y : MO, GOk [y, MO.lst (intD (ordI ws))] [(1, intD (ordI ws))] := λ y q hq => by rw [List.mem_singleton] at hq; subst hq; rfl
      refine ⟨[some (.im (wmsI ws)), some (.im (.int (v : Int))), some (.im (tabI ws.length N (fT c (wxs ws)))), some (.mu 0), some (.im (.int (p.length : Int))), some (.im (.int (k : Int)))], rfl, ?_⟩
      refine ws_ifn (wt_test (we_op (we_op (we_op (we_var rfl (we_op (we_var rfl (we_c (wp_add ?_)))))))))
      rw [show (p.length : Int) + 1 = ((p.length + 1 : Nat) : Int) by omega]
      refine wp_ix rfl (tab_at (by omega)) (we_var rfl (wp_ix rfl (row_at hvN) (we_op (we_op (we_var rfl (we_var rfl (wp_ix rfl (tab_at (by omega)) (we_var rfl (wp_ix rfl (row_at hvN) (wp_neO ⟨_, rfl, λ h => ?_, λ h => ?_⟩))))))))))
      . obtain ⟨hw, y, fy, exy, hd⟩ := next_ne (x := wx ws[k]) (f := fT c (wxs ws) p.length) (w := v) (e := x) (by rw [e2]; exact hx) (by rw [e2]; intro z; rw [z] at h; simp at h)
        refine ws_seq (ws_drop (we_mt (we_var rfl ⟨⟨_, rfl⟩, wa_cons (we_var rfl (wa_nil (wp_app rfl (fitsL_of (by simp [intD]; omega)) (thenS_nx ?_))))⟩)))
        have eh : ([MO.lst (intD ks.reverse), .lst (intD (ordI ws))] : Hd).set 0 (.lst (intD ks.reverse ++ [.im (.int (k : Int))])) = [.lst (intD ((k : Int) :: ks).reverse), .lst (intD (ordI ws))] := by simp [intD]
        rw [eh]
        refine ws_aug rfl (we_call0 (wa_cons (we_op (we_var rfl (we_var rfl (wp_ix (by rw [sv_tup, im_wms]) (wm_at hk) (wa_nil ⟨by simp [wmI], (weight_w _).mono ?_⟩)))))))
        rintro d q rfl
        have h9 := okk.2.2.2
        have e5 : (v : Int) - (ws[k]).wt = ((v - (wx ws[k]).2.2 : Nat) : Int) := by unfold wx at hw ⊢; dsimp only at hw ⊢; omega
        have a1 : (wx ws[k]).1 = lnI ws k := ln_at hk
        have a2 : (wx ws[k]).2.1 = dueOf ws k := due_at hk
        have a3 : (ws[k]).wt = wtI ws k := wt_at hk
        rw [a1] at exy hd
        rw [a2] at hd
        refine ⟨_, rfl, _, rfl, G _, p, (k : Int) :: post, (k : Int) :: ks, v - (wx ws[k]).2.2, y, some (.im (.int (p.length : Int))), some (.im (.int (k : Int))), e1', rfl, by rw [<- e5]; rfl, rfl, sb.cons_cons _, fy, ⟨hd, by rw [<- exy]; exact hin⟩, by rw [List.map_cons, List.sum_cons]; omega, by rw [List.map_cons, List.sum_cons, <- e5, a3]; omega, by omega⟩
      . have h : fT c (wxs ws) (p.length + 1) v = fT c (wxs ws) p.length v := by simpa using h
        exact ws_next ⟨G _, p, (k : Int) :: post, ks, v, x, _, _, e1', rfl, rfl, rfl, sb.cons _, by rw [<- h]; exact hx, hin, hs1, hs2, hv⟩
  . rintro ls hd ⟨pre, post, ks, v, x, z4, z5, e1, er', rfl, rfl, sb, hx, hin, hs1, hs2, hv⟩
    have : pre = [] := by
      have := congrArg List.length er'
      simp [intD] at this
      exact List.length_eq_zero_iff.mp this.symm
    subst this
    have e1 : ordI ws = post := e1
    have hkl := sb.length_le
    rw [<- e1, ord_len] at hkl
    have hv0 : v = 0 /\ x = c := by
      have hx : (if v = 0 then some c else none) = some x := hx
      by_cases z : v = 0
      . rw [if_pos z] at hx; exact ⟨z, (Option.some.inj hx).symm⟩
      . rw [if_neg z] at hx; cases hx
    obtain ⟨rfl, rfl⟩ := hv0
    refine thenS_nx (ws_ret (we_hid (wa_sorted (wi_L (we_var rfl ⟨0, intD ks.reverse, rfl, rfl, ks.reverse, rfl, by simp; omega, _, rfl, ?_⟩)))))
    refine .inr ⟨ks, ?_, by rw [e1]; exact sb, hin, by rw [er, he, hs1], by simpa using hs2⟩
    rw [mk_ints, sort_rev]
theorem set1 {ws : List Wm} {ns : List Int} (hs : ns.Sublist (ordI ws)) : (∀ k ∈ sortI ns, 0 <= k /\ k < (ws.length : Int)) /\ (sortI ns).Pairwise (· < ·) := by
  refine ⟨λ k hk => ?_, ?_⟩
  . obtain ⟨j, hj, rfl⟩ := ord_mem (hs.subset ((sortI_perm ns).mem_iff.mp hk))
    omega
  . have nd : (sortI ns).Nodup := (sortI_perm ns).nodup_iff.mpr (hs.nodup (ord_nodup ws))
    exact List.Pairwise.imp₂ (λ a b h1 h2 => by have : a ≠ b := h2; omega) (sortI_sorted ns) nd
theorem we_nilEN {hd : Hd} {ls : Ls} {i k : Nat} {es : List Int} {QE : D -> Hd -> Prop} (e1 : ls[i]? = some (some (.mu k))) (e2 : hd[k]? = some (.lst (intD es))) (q : QE (.im (.bl (decide (es = [])))) hd) : WE (mEqEN false (mVar i) (mLst mNil)) ls hd QE := by
  refine ⟨_, hd, ?_, q⟩
  simp only [mEqEN, ev_var, e1, ev_lst, ev_nil, Option.bind_some]
  have : pyD hd (.mu k) = some (.list (es.map PyData.int)) := by simp [pyD, e2, intD, allIm_ints, pys_ints]
  simp [this, I.pys, cmp_nil]
theorem told_w {B c : Int} {ws : List Wm} (ok : okMs B c ws) (hB : B <= 2000) {w : Int} {es : List Int} (hm : IsMin es (resT c ws w)) {hd : Hd} {k : Nat} (he : hd[k]? = some (.lst (intD es))) : WF F_told_so [.im (wmsI ws), .im (.int w), .mu k] hd λ d x => d = .im (.bl true) /\ x = hd := by
  have ok2 : okMs 2000 c ws := by
    obtain ⟨h1, h2, h3, h4⟩ := ok
    refine ⟨h1, h2, h3, λ w hw => ?_⟩
    obtain ⟨g1, g2, g3, g4⟩ := h4 w hw
    exact ⟨g1, g2, by omega, g4⟩
  have hl8 := ok.2.1
  unfold F_told_so
  refine wf_mk rfl ?_
  refine ws_seq (ws_set (we_call0 (wa_cons (we_var rfl (wa_cons (we_var rfl (wa_nil ⟨by simp, (in_time_w ok hB w).mono ?_⟩)))))))
  rintro d x (⟨hr, rfl⟩ | ⟨ks, rfl, sb, hin, hr, hw⟩)
  . have h0 : es = [] := by
      rcases hm with ⟨_, z⟩ | ⟨m, z, _⟩
      . exact z
      . rw [hr] at z; cases z
    refine ⟨_, rfl, thenS_nx ?_⟩
    refine ws_seq (ws_ifn (wt_test (we_nilEN rfl he ⟨_, rfl, λ _ => ?_, λ h => ?_⟩)))
    . exact ws_ret (we_isN (we_var rfl ⟨none, rfl, rfl, rfl⟩))
    . simp [h0] at h
  . obtain ⟨hme, hml⟩ : (c + (ks.map (lnI ws)).sum) ∈ es /\ ∀ x ∈ es, (c + (ks.map (lnI ws)).sum) <= x := by
      rcases hm with ⟨z, _⟩ | ⟨m, z, h1, h2⟩
      . rw [hr] at z; cases z
      . rw [hr] at z; cases z; exact ⟨h1, h2⟩
    have hne := List.ne_nil_of_mem hme
    obtain ⟨s1, s2⟩ := set1 sb
    have hkl := sb.length_le
    rw [ord_len] at hkl
    have hsl : (sortI ks).length = ks.length := (sortI_perm ks).length_eq
    refine ⟨_, rfl, thenS_nx ?_⟩
    refine ws_seq (ws_ifn (wt_test (we_nilEN rfl he ⟨_, rfl, λ h => ?_, λ _ => ws_next (thenS_nx ?_)⟩)))
    . simp [hne] at h
    refine ws_seq (ws_ifn (wt_or (wt_not (wt_tru (we_call0 (wa_cons (we_cb (wa_cons (we_var rfl (wa_nil (wp_f1 rfl rfl (wa_cons (we_var rfl (wa_nil ⟨by simp, (is_set_w (by omega) (by simpa using s1) s2).mono ?_⟩))))))))))))))
    rintro d x rfl
    refine ⟨_, rfl, _, rfl, ?_⟩
    rw [if_neg (by simp)]
    refine wt_test (we_op (we_hid (wa_comp (wi_T (we_var rfl ⟨_, rfl, ?_⟩)))))
    rw [tup_D]
    refine ⟨fits_of (by simp [intD]; omega), ?_⟩
    refine wc_map (λ i : Int => D.im (.int i)) (λ i => some (.im (.int (wtI ws i)))) (λ _ ls => ∃ x, ls = [some x, some (.im (wmsI ws))]) _ (gok_nil _) ?_ ?_
    . rintro i hi ls hls
      obtain ⟨k, hk, rfl⟩ := ord_mem (sb.subset ((sortI_perm ks).mem_iff.mp hi))
      refine ⟨[some (.im (.int (k : Int))), some (.im (wmsI ws))], by rcases hls with rfl | ⟨_, x, rfl⟩ <;> rfl, ⟨_, rfl⟩, wt_yes ⟨rfl, ?_⟩⟩
      rw [if_pos rfl]
      refine ⟨_, rfl, we_op (we_op (we_op (we_var rfl (we_var rfl (wp_ix (by rw [sv_tup, im_wms]) (wm_at hk) (we_c (wp_ix (ds := [.im (.int (ws[k]).len), .im (.int (ws[k]).com), .im (.tup [.str "miss", .int (ws[k]).due, .int (ws[k]).wt])]) rfl (at_2 _ _ _ _) (we_c (wp_ix (ds := [.im (.str "miss"), .im (.int (ws[k]).due), .im (.int (ws[k]).wt)]) rfl (at_2 _ _ _ _) ⟨rfl, ?_⟩)))))))))⟩
      rw [wt_at hk]; rfl
    have e : ((sortI ks).filterMap λ i => some (D.im (.int (wtI ws i)))) = intD ((sortI ks).map (wtI ws)) := by simp [intD]
    rw [e]
    refine ⟨_, by unfold kSum; rw [intsD_int]; rfl, we_var rfl (wp_neI ⟨_, rfl, (λ h => ?_), λ _ => ws_next (thenS_nx ?_)⟩)⟩
    . rw [psum ((sortI_perm ks).map (wtI ws)), hw] at h
      simp at h
    refine ws_ret (we_op (we_call0 (wa_cons (we_var rfl (wa_cons (we_var rfl (wa_nil ⟨by simp, (end_w ok2 sb hin).mono ?_⟩)))))))
    rintro d x rfl
    refine ⟨_, rfl, we_cb (wa_cons (we_var rfl (wa_nil ?_)))⟩
    have ms := minI_spec hne
    have h4 := ms.2 _ hme
    have h5 := hml _ ms.1
    refine wp_f1 (ds := intD es) (by rw [if_neg (by simp), lv_mu, he]) (by unfold kMin; rw [intsD_int, Option.bind_some, if_neg hne]) (wp_eqI ?_)
    exact ⟨by rw [decide_eq_true (by omega)], rfl⟩
open Lt (IsMin comb behind nextR sel foundTo Wx En found_len found_wt)
theorem sum_wx {B c : Int} {ws : List Wm} (ok : okMs B c ws) : ((wxs ws).map λ x => x.2.2).sum = (fullW ws).toNat := by
  have h1 : (wxs ws).Perm (ws.map wx) := by
    have p := (ord_perm ws).map λ i : Int => (ws[i.toNat]?.map wx).getD (0, 0, 0)
    rw [List.map_map] at p
    refine p.trans ?_
    refine (List.Perm.of_eq ?_)
    refine List.ext_getElem (by simp) λ i a b => ?_
    simp at a b
    simp [a]
  have h2 := (h1.map λ x : Wx => x.2.2).sum_nat
  rw [h2, List.map_map]
  have : ∀ vs : List Wm, (∀ w ∈ vs, okM B c w) -> (vs.map ((λ x : Wx => x.2.2) ∘ wx)).sum = (fullW vs).toNat /\ 0 <= fullW vs := by
    intro vs
    induction vs with
    | nil => intro _; simp [fullW]
    | cons v r ih =>
      intro h
      have ih := ih λ w hw => h w (by simp [hw])
      have := (h v (by simp)).2.2.2
      simp only [fullW, List.map_cons, List.sum_cons, Function.comp] at *
      have e : (wx v).2.2 = v.wt.toNat := rfl
      rw [ih.1, e]
      omega
  exact (this ws ok.2.2.2).1
def selI (w : Int) (E : List En) : List Int := (E.filter λ e => decide ((e.2.1 : Int) = w)).map λ e => e.2.2
theorem sel_min {B c : Int} {ws : List Wm} (ok : okMs B c ws) (w : Int) : IsMin (selI w (foundTo c (wxs ws) ws.length)) (resT c ws w) := by
  have hf := full_le ok
  have hl : (wxs ws).length = ws.length := by unfold wxs; rw [List.length_map, ord_len]
  unfold resT
  by_cases h : w < 0 ∨ fullW ws < w
  . rw [if_pos h]
    refine .inl ⟨rfl, ?_⟩
    unfold selI
    rw [List.map_eq_nil_iff, List.filter_eq_nil_iff]
    intro e he
    have h1 := found_wt he
    rw [List.take_of_length_le (by omega), sum_wx ok] at h1
    simp
    omega
  . rw [if_neg h]
    obtain ⟨u, rfl⟩ := Int.eq_ofNat_of_zero_le (show 0 <= w by omega)
    have e : selI (u : Int) (foundTo c (wxs ws) ws.length) = sel u (foundTo c (wxs ws) ws.length) := by
      unfold selI sel
      congr 1
      refine List.filter_congr λ e _ => ?_
      exact decide_eq_decide.mpr (by omega)
    rw [e, Int.toNat_natCast]
    exact fT_min c (wxs ws) ws.length (by omega) u
theorem selD {E : List En} {qs : List Nat} (hq : qs.length = E.length) (w : Int) : ((E.zip qs).filterMap λ z => if (z.1.2.1 : Int) = w then some (D.im (.int z.1.2.2)) else none) = intD (selI w E) := by
  unfold selI
  induction E generalizing qs with
  | nil => rfl
  | cons e r ih =>
    cases qs with
    | nil => simp at hq
    | cons q qs =>
      have ih := ih (qs := qs) (by simpa using hq)
      rw [List.zip_cons_cons, List.filterMap_cons, List.filter_cons]
      by_cases h : (e.2.1 : Int) = w
      . simp [h, intD] at ih ⊢; exact ih
      . simp [h] at ih ⊢; exact ih
abbrev Lg (ns : List Int) (mo fu : Int) (i3 : I) (z6 z7 z8 : Option D) : Ls := [some (.ro ns), some (.mu 1), some (.im (.int mo)), some (.im i3), some (.im (.int fu)), some (.mu 2), z6, z7, z8]
theorem asked_w (ns us : List Int) {mo fu : Int} {i3 : I} {c : Int} {ws : List Wm} (ok : okMs 2000 c ws) {L : Nat} {X : Hd} {qs : List Nat} (hq : qs.length = (foundTo c (wxs ws) ws.length).length) (h2 : ∀ g : Hd, (X ++ g)[2]? = some (.lst (intD us))) (hX : X[L]? = some (.lst (((foundTo c (wxs ws) ws.length).zip qs).map enT))) {z8 : Option D} {Q : Fl -> Hd -> Prop}
    (q : ∀ z8 g, Q (Fl.nx (Lg ns mo fu i3 (some (.im (wmsI ws))) (some (.mu L)) z8)) (X ++ g)) :
    WS (mFor (mItL (mVar 5)) (nName 8)
      (mIfS (mNot (mTru (mCallG F_told_so (mCons (mVar 6) (mCons (mVar 8) (mCons (mNew (mComp 1 [8] (mItL (mVar 7)) (nName 0) (mTest (mOp gEq (mOp gIx (mVar 0) (mC (.int 1))) (mVar 1))) (mOp gIx (mVar 0) (mC (.int 2))))) mNil))))))
      (mRet (mC (.bl false)))
      mNext)) (Lg ns mo fu i3 (some (.im (wmsI ws))) (some (.mu L)) z8) X Q := by
  have hmn := sel_min ok
  have hlE : (foundTo c (wxs ws) ws.length).length <= 256 := Nat.le_trans (found_len _) (pow8 ok.2.1)
  generalize foundTo c (wxs ws) ws.length = E at *
  have h20 : X[2]? = some (.lst (intD us)) := by simpa using h2 []
  refine ws_for (wi_L (we_var rfl ⟨2, intD us, rfl, h20, ?_⟩))
  refine wl_inv (λ r ls hd => ∃ (rest : List Int) (g : Hd) (z8 : Option D), r = intD rest /\ ls = Lg ns mo fu i3 (some (.im (wmsI ws))) (some (.mu L)) z8 /\ hd = X ++ g) ⟨us, [], z8, rfl, rfl, by simp⟩ ?_ ?_
  . rintro d r ls hd ⟨rest, g, z8, er, rfl, rfl⟩
    cases rest with
    | nil => cases er
    | cons w rest =>
      obtain ⟨rfl, rfl⟩ := List.cons.inj er
      have hXg : (X ++ g)[L]? = some (.lst ((E.zip qs).map enT)) := app_at hX g
      refine ⟨Lg ns mo fu i3 (some (.im (wmsI ws))) (some (.mu L)) (some (.im (.int w))), rfl, ?_⟩
      refine ws_ifn (wt_not (wt_tru (we_callG (wa_cons (we_var rfl (wa_cons (we_var rfl (wa_cons (we_new (wa_comp (wi_L (we_var rfl ⟨L, _, rfl, hXg, fits_of (by rw [List.length_map, List.length_zip, hq, Nat.min_self]; omega), ?_⟩))))))))))))
      refine wc_map enT (λ z => if (z.1.2.1 : Int) = w then some (D.im (.int z.1.2.2)) else none) (λ _ ls => ∃ x, ls = [some x, some (.im (.int w))]) _ (by intro q hq; rw [List.mem_singleton] at hq; subst hq; exact hXg) ?_ ?_
      . rintro z hz ls hls
        refine ⟨[some (enT z), some (.im (.int w))], by rcases hls with rfl | ⟨_, x, rfl⟩ <;> rfl, ⟨_, rfl⟩, ?_⟩
        refine wt_test (we_op (we_op (we_var rfl (we_c (wp_ix rfl (at_1 _ _ _) (we_var rfl (wp_eqI ⟨_, rfl, rfl, ?_⟩)))))))
        by_cases h : (z.1.2.1 : Int) = w
        . rw [if_pos (decide_eq_true h)]
          exact ⟨_, if_pos h, we_op (we_var rfl (we_c (wp_ix rfl (at_2 _ _ _ _) ⟨rfl, rfl⟩)))⟩
        . rw [if_neg (λ z => h (of_decide_eq_true z))]
          exact if_neg h
      rw [selD hq]
      refine wa_nil ((told_w ok (by decide) (hmn w) (new_at (X ++ g) _ [])).mono ?_)
      rintro d x ⟨rfl, rfl⟩
      refine ⟨_, rfl, (λ h => by cases h), λ _ => ws_next ⟨?_, rest, g ++ [.lst (intD (selI w E))], _, rfl, rfl, by simp⟩⟩
      intro q hq; rw [List.mem_singleton] at hq; subst hq
      rw [List.append_assoc]; exact h2 _
  . rintro ls hd ⟨rest, g, z8, er, rfl, rfl⟩
    exact q z8 g
theorem law_w (ns : List Int) : WF F_law [.ro ns] [] λ d x => d = .im (.bl true) := by
  unfold F_law
  refine wf_mk rfl ?_
  refine ws_seq (ws_set (we_callG (wa_cons (we_var rfl (wa_nil ((source_w ns).mono ?_))))))
  rintro d x ⟨rfl, a, b, hT, rfl⟩
  have hT : T (1000 + 1) a b := tap.le hT (by omega)
  refine thenS_nx (ws_seq (ws_set (we_ixH (wa_lst (wa_cons (we_c (wa_cons (we_c (wa_cons (we_c (wa_nil ⟨fits_3, ?_⟩)))))))))) )
  refine tap.draw hT rfl (by first | decide | omega) (by first | decide | omega) λ r2 a b hT pr2 qr2 => ?_
  obtain ⟨d2, hd2, ed2⟩ := at3 pr2 qr2 (.im (.int 3)) (.im (.int 5)) (.im (.int 8))
  refine ⟨_, _, rfl, ed2, ?_⟩
  obtain ⟨mo, rfl, hmo⟩ : ∃ t, d2 = .im (.int t) /\ (1 <= t /\ t <= 8) := by
    rcases hd2 with rfl | rfl | rfl <;> exact ⟨_, rfl, by omega, by omega⟩
  have hT : T (900 + 100) a b := tap.le hT (by omega)
  refine thenS_nx (ws_seq (ws_set ?_))
  refine tap.call hT (as := [.im (.int mo)]) (rest := []) rfl (by simp) (late_works_w _ hmo) ?_
  rintro i a b hT ⟨ws, c, rfl, ok⟩
  have hl8 := ok.2.1
  have hf := full_le ok
  refine thenS_nx (ws_seq (ws_set (we_hid (wa_comp (wi_T (we_var rfl ⟨_, rfl, ?_⟩))))))
  rw [im_wms]
  refine ⟨fits_of (by simp; omega), ?_⟩
  refine wc_map wmD (λ w => some (.im (.int w.wt))) (λ _ ls => ∃ x, ls = [some x]) _ (gok_nil _) ?_ ?_
  . rintro p hp ls hls
    refine ⟨[some (wmD p)], by rcases hls with rfl | ⟨_, x, rfl⟩ <;> rfl, ⟨_, rfl⟩, wt_yes ⟨rfl, ?_⟩⟩
    rw [if_pos rfl]
    exact ⟨_, rfl, we_op (we_op (we_var rfl (we_c (wp_ix (ds := [.im (.int p.len), .im (.int p.com), .im (.tup [.str "miss", .int p.due, .int p.wt])]) rfl (at_2 _ _ _ _) (we_c (wp_ix (ds := [.im (.str "miss"), .im (.int p.due), .im (.int p.wt)]) rfl (at_2 _ _ _ _) ⟨rfl, rfl⟩))))))⟩
  have e : (ws.filterMap λ w => some (D.im (.int w.wt))) = intD (ws.map Wm.wt) := by simp [intD]
  rw [e]
  refine ⟨_, by unfold kSum; rw [intsD_int]; rfl, thenS_nx ?_⟩
  change WS _ [some (.ro ns), some (.mu 1), some (.im (.int mo)), some (.im (wmsI ws)), some (.im (.int (fullW ws))), none, none, none, none] [a, b] _
  refine ws_seq (ws_set (we_new (wa_comp (wi_R (wa_cons (we_c (wa_nil ⟨_, rfl, rng1_of (by decide) (by decide), fits_of (by decide), ?_⟩)))))))
  refine wc_to (λ r' es ls hd => ∃ (ts : List Int) (a b : MO) (z : Option D), es = intD ts /\ ts.length + r'.length = 5 /\ ls = [z, some (.mu 1), some (.im (.int (fullW ws)))] /\ hd = [a, b] /\ T (100 + r'.length) a b) ⟨[], a, b, none, rfl, rfl, rfl, rfl, tap.le hT (by simp [rangeD])⟩ ?_ ?_
  . rintro d r' es ls hd ⟨ts, a, b, z, rfl, hlen, rfl, rfl, hT⟩
    have hT : T (100 + r'.length + 1) a b := tap.le hT (by simp; omega)
    refine ⟨[some d, some (.mu 1), some (.im (.int (fullW ws)))], rfl, wt_yes ?_⟩
    rw [if_pos rfl]
    refine we_op (tap.draw hT (many := fullW ws + 3) (rest := []) (by simp) (by omega) (by omega) λ v a b hT pv qv => we_c (wp_sub ?_))
    exact ⟨gok_nil _, ts ++ [v - 1], a, b, _, by simp [intD], by simp at hlen ⊢; omega, rfl, rfl, hT⟩
  rintro es ls hd ⟨ts, a, b, z, rfl, hlen, rfl, rfl, hT⟩
  refine thenS_nx ?_
  change WS _ [some (.ro ns), some (.mu 1), some (.im (.int mo)), some (.im (wmsI ws)), some (.im (.int (fullW ws))), some (.mu 2), none, none, none] [a, b, .lst (intD ts)] _
  have hT : T (99 + 1) a b := tap.le hT (by omega)
  refine ws_seq (ws_drop (we_mt (we_var rfl ⟨⟨_, rfl⟩, wa_cons (we_ixH (wa_lst (wa_cons (we_neg (we_c ⟨_, rfl, wa_cons (we_c (wa_cons (we_var rfl (wa_nil ⟨fits_3, ?_⟩))))⟩)))))⟩)))
  refine tap.draw hT rfl (by decide) (by decide) λ r a b hT pr qr => ?_
  obtain ⟨d5, hd5, ed5⟩ := at3 pr qr (.im (.int (-999))) (.im (.int 999)) (.im (.int (fullW ws)))
  obtain ⟨t5, rfl⟩ : ∃ t, d5 = .im (.int t) := by rcases hd5 with rfl | rfl | rfl <;> exact ⟨_, rfl⟩
  refine ⟨r, _, rfl, ed5, wa_nil (wp_app rfl (fitsL_of (by simp [intD]; omega)) (thenS_nx ?_))⟩
  have eh : ([a, b, MO.lst (intD ts)] : Hd).set 2 (.lst (intD ts ++ [.im (.int t5)])) = [a, b, .lst (intD (ts ++ [t5]))] := by simp [intD]
  rw [eh]
  generalize ts ++ [t5] = us
  refine ws_seq (ws_for (wi_T (we_tup (wa_cons (we_var rfl (wa_cons ?_))))))
  have hT : T (50 + 20) a b := tap.le hT (by omega)
  refine tap.call hT (as := [.im (wmsI ws)]) (rest := [.lst (intD us)]) rfl (by simp) (far_w _ ok) ?_
  rintro i a b hT ⟨ws2, c2, rfl, ok2⟩
  refine wa_nil ⟨fits_2, ?_⟩
  rw [mkTup_2]
  refine ⟨[.im (wmsI ws), .im (wmsI ws2)], rfl, ?_⟩
  have ok0 : okMs 2000 c ws := by
    obtain ⟨h1, h2, h3, h4⟩ := ok
    refine ⟨h1, h2, h3, λ w hw => ?_⟩
    obtain ⟨g1, g2, g3, g4⟩ := h4 w hw
    exact ⟨g1, g2, by omega, g4⟩
  refine wl_inv (λ r ls hd => ∃ (rest : List (List Wm)) (g : Hd) (z6 z7 z8 : Option D), r = rest.map (λ v => D.im (wmsI v)) /\ (∀ v ∈ rest, ∃ c, okMs 2000 c v) /\ ls = Lg ns mo (fullW ws) (wmsI ws) z6 z7 z8 /\ hd = [a, b, .lst (intD us)] ++ g) ⟨[ws, ws2], [], none, none, none, rfl, λ v hv => by rcases List.mem_cons.mp hv with rfl | hv; exact ⟨_, ok0⟩; rw [List.mem_singleton] at hv; subst hv; exact ⟨_, ok2⟩, rfl, rfl⟩ ?_ ?_
  . rintro d r ls hd ⟨rest, g, z6, z7, z8, er, hrest, rfl, rfl⟩
    cases rest with
    | nil => cases er
    | cons v rest =>
      obtain ⟨rfl, rfl⟩ := List.cons.inj er
      obtain ⟨cv, okv⟩ := hrest v (by simp)
      refine ⟨Lg ns mo (fullW ws) (wmsI ws) (some (.im (wmsI v))) z7 z8, rfl, ?_⟩
      refine ws_seq (ws_set (we_callG (wa_cons (we_var rfl (wa_nil ((sets_w okv (by decide) _).mono ?_))))))
      rintro d x ⟨L, rest2, qs, rfl, hL, rfl, hq, hE⟩
      refine thenS_nx ?_
      refine asked_w ns us okv hq (λ g' => by simp) hE λ z8 g' => ?_
      exact ⟨gok_nil _, rest, g ++ rest2 ++ g', _, _, _, rfl, λ v hv => hrest v (by simp [hv]), rfl, by simp⟩
  . rintro ls hd ⟨rest, g, z6, z7, z8, er, hrest, rfl, rfl⟩
    exact thenS_nx (ws_ret (we_c rfl))
theorem law_eq (ns : List Int) : ∃ hd, F_law [.ro ns] [] = some (.im (.bl true), hd) := by
  obtain ⟨d, x, e, rfl⟩ := law_w ns
  exact ⟨x, e⟩
end T39
namespace L2
open PySem PySem.Spec PyProof.Rows PySem.W
abbrev Tb := Addr × Str × Nat × Nat
def markObj (ts : List Tb) : Obj := { cls := .str "tables" 0, data := .fields (ts.flatMap λ t => [.ref t.1, .str t.2.1 0, .int t.2.2.1 0, .int t.2.2.2 0]).toArray }
def markK (K : PySem.W.Frag) (ts : List Tb) : PySem.W.Frag := (K.filter λ p => !(ts.map (·.1)).contains p.1) ++ [(mainGlobals, markObj ts)]
theorem tab_go : ∀ ts : List Tb, tabGo (ts.flatMap λ t => [Value.ref t.1, .str t.2.1 0, .int t.2.2.1 0, .int t.2.2.2 0]) = ts.map λ t => (t.1, t.2.1, ⟨t.2.2.1, t.2.2.2, 0, 0⟩)
  | [] => rfl
  | t :: r => by
    rw [List.flatMap_cons, List.map_cons, <- tab_go r]
    rfl
theorem tabs_mark (K : PySem.W.Frag) (ts : List Tb) : tabsOf (markK K ts) = ts.map λ t => (t.1, t.2.1, ⟨t.2.2.1, t.2.2.2, 0, 0⟩) := by
  unfold tabsOf markK
  rw [List.getLast?_concat]
  show tabGo _ = _
  rw [<- tab_go ts]
theorem look_filter {L : List Addr} {a : Addr} (ha : a ∉ L) : ∀ K : PySem.W.Frag, (K.filter λ p => !L.contains p.1).lookup a = K.lookup a
  | [] => rfl
  | (b, o) :: r => by
    have ih := look_filter ha r
    rw [List.filter_cons]
    by_cases hb : b ∈ L
    . have h1 : (!L.contains (b, o).1) = false := by simp [hb]
      have h2 : (a == b) = false := beq_eq_false_iff_ne.mpr λ z => ha (z ▸ hb)
      rw [if_neg (by rw [h1]; decide), List.lookup_cons, h2, ih]
    . have h1 : (!L.contains (b, o).1) = true := by simp [hb]
      rw [if_pos h1, List.lookup_cons, List.lookup_cons, ih]
theorem look_none {L : List Addr} {P : Addr} (hP : P ∈ L) : ∀ K : PySem.W.Frag, (K.filter λ p => !L.contains p.1).lookup P = none
  | [] => rfl
  | (b, o) :: r => by
    have ih := look_none hP r
    rw [List.filter_cons]
    by_cases hb : b ∈ L
    . rw [if_neg (by simp [hb])]; exact ih
    . have h2 : (P == b) = false := beq_eq_false_iff_ne.mpr λ z => hb (z ▸ hP)
      rw [if_pos (by simp [hb]), List.lookup_cons, h2]; exact ih
section
variable {K : PySem.W.Frag} {ts : List Tb}
theorem mark_look {a : Addr} {o : Obj} (ha : a ∉ ts.map (·.1)) (e : K.lookup a = some o) : (markK K ts).lookup a = some o := by
  unfold markK
  rw [List.lookup_append, look_filter ha, e]; rfl
theorem mark_in {h : Heap} (X : K.In h) {g : Obj} (hg : K.lookup mainGlobals = some g) (hP : mainGlobals ∉ ts.map (·.1)) : (markK K ts).In h := λ a o e => by
  unfold markK at e
  rw [List.lookup_append] at e
  by_cases ha : a ∈ ts.map (·.1)
  . rw [look_none ha, Option.none_or] at e
    have h2 : (a == mainGlobals) = false := beq_eq_false_iff_ne.mpr λ z => hP (z ▸ ha)
    rw [List.lookup_cons, h2] at e; cases e
  . rw [look_filter ha] at e
    cases k : K.lookup a with
    | some o' => rw [k] at e; cases e; exact X _ _ k
    | none =>
      rw [k, Option.none_or, List.lookup_cons] at e
      by_cases hm : a = mainGlobals
      . subst hm; rw [hg] at k; cases k
      . rw [beq_eq_false_iff_ne.mpr hm] at e; cases e
theorem mark_no (hM : mainGlobals ∉ ts.map (·.1)) {P : Addr} (hP : P ∈ ts.map (·.1)) : (markK K ts).lookup P = none := by
  unfold markK
  have h2 : (P == mainGlobals) = false := beq_eq_false_iff_ne.mpr λ z => hM (z ▸ hP)
  rw [List.lookup_append, look_none hP, Option.none_or, List.lookup_cons, h2]
  rfl
theorem Fun.mark {x : Str} {st : Stmt} {f : Addr} {fd : FuncData} (D : Fun K x x st f fd) {h : Heap} (X : K.In h) (hP : ∀ P ∈ ts.map (·.1), h.get? P = some (tabObj #[])) : Fun (markK K ts) x x st f fd := by
  have neP : ∀ a o, K.lookup a = some o -> o ≠ tabObj #[] -> a ∉ ts.map (·.1) := λ a o e n z => by
    have := X _ _ e
    rw [hP a z] at this; exact n (Option.some.inj this).symm
  obtain ⟨⟨oc, od, kV, doc, pm, an, cdv, ct, osl, rfl, lk, hcd⟩, kp⟩ := D
  have hf : f ∉ ts.map (·.1) := neP f _ lk (λ z => by cases z)
  refine ⟨⟨oc, od, kV, doc, pm, an, cdv, ct, osl, rfl, mark_look hf lk, ?_⟩, ?_⟩
  . unfold codeIn at hcd ⊢
    split at hcd
    . next c0 =>
      split at hcd
      . next vs sl k =>
        have hc : c0 ∉ ts.map (·.1) := neP c0 _ k (λ z => by
          have : vs = #[] := by injection z with _ _ z _; injection z
          rw [this] at hcd; cases hcd)
        simp only [mark_look hc k]
        exact hcd
      . cases hcd
    . cases hcd
  . unfold keepIn
    simp only [mark_look hf lk]
end
theorem ro_of {K : PySem.W.Frag} {H : Hp} {a : Addr} {xs : List V} (hS : SqL K H a xs) (hO : ∀ ys, H a ≠ some (.lst ys)) : RoL K H a xs := by
  rcases hS with (h | h) | h
  . exact absurd h (hO xs)
  . exact .inl h
  . exact .inr h
theorem law_callT {Pg : Program} {w : World} {K : PySem.W.Frag} {mg mb : Str -> Option Value} {k : Nat} {fa a : Addr} {fd : FuncData} {x : Str} {ts : List Tb} {s₁ : Shared} {vs : List Value} {ns : List Int} {F : List D -> Hd -> Option (D × Hd)}
    (KX : K.In s₁.heap) (hns : s₁.heap.Ns mainGlobals mg) (hb : s₁.heap.Ns builtinsNs mb) (hbb : ∀ x : Str, x ≠ "__name__" -> mb x = bootBuiltins x) (hlim : s₁.heap.NoLimit) (hg : s₁.gens = #[])
    (ha : s₁.heap.get? a = some { cls := .type "list", data := .seq vs.toArray }) (hi : IntsAre vs ns) (hl : ns.length <= sizeLine) (hr : Room k callerA)
    (hT : ∀ P ∈ ts.map (·.1), ∃ cc, s₁.heap.TableAt cc P #[]) (hPK : ∀ P ∈ ts.map (·.1), K.lookup P = none) (htab : tabsOf K = ts.map λ t => (t.1, t.2.1, ⟨t.2.2.1, t.2.2.2, 0, 0⟩))
    (Fn : ∀ base : Heap, K.In base -> base.Ns mainGlobals mg -> (∀ b o, b ∉ ts.map (·.1) -> b ≠ a -> s₁.heap.get? b = some o -> base.get? b = some o) -> FnOk Pg w K mg base CX0 k fa fd [x] (spF K 1 F)) (hbind : ∀ (s : Shared) (u : Value), BindsTo s fd ⟨[u], []⟩ [(x, u)])
    (hF : ∃ hd', F [.ro ns] [] = some (.im (.bl true), hd')) :
    codeAny (model Pg w) callerA (.call (.ref fa) ⟨[.ref a], []⟩) (λ r s' => r = .ok (.ret (.bool true)) /\ OldK s₁.heap s'.heap /\ s'.os = s₁.os /\ AllBare s'.gens) s₁ := by
  have rv := vals_ints hi
  have lenV := hi.length
  have hP : ∀ P ∈ ts.map (·.1), s₁.heap.get? P = some (tabObj #[]) := λ P h => let ⟨cc, t⟩ := hT P h; t.2
  have haP : a ∉ ts.map (·.1) := λ z => by rw [hP a z] at ha; cases ha
  have core : ∀ H : Hp, (∀ b, b ∉ ts.map (·.1) -> H b = none ∨ ∃ o xs, H b = some (.frz o (.lst xs))) -> (∀ P ∈ ts.map (·.1), H P = some (.tbl #[])) -> SqL K H a (ns.map V.int) -> HOk Pg w H s₁.heap -> (∀ b, H b ≠ none -> b = a ∨ b ∈ ts.map (·.1)) -> (H a ≠ none -> K.lookup a = none) ->
      codeAny (model Pg w) callerA (.call (.ref fa) ⟨[.ref a], []⟩) (λ r s' => r = .ok (.ret (.bool true)) /\ OldK s₁.heap s'.heap /\ s'.os = s₁.os /\ AllBare s'.gens) s₁ := by
    intro H hO hHP hS hok hA hK
    have base_of : ∀ {b : Addr} {o : Obj}, s₁.heap.get? b = some o -> H b = none -> (hidT s₁.heap H).get? b = some o := λ e n => hidT_get e n
    have noA : ∀ {b : Addr} {o : Obj} {es : Array DictEntry} {ep : Nat}, s₁.heap.get? b = some o -> o.data = .dict es ep -> H b = none := λ {b o es ep} e d => by
      cases q : H b with
      | none => rfl
      | some u =>
        rcases hA b (by rw [q]; simp) with e' | e'
        . subst e'
          rw [ha] at e; cases e
          have d' : Data.seq vs.toArray _ = Data.dict es ep := d
          cases d'
        . rw [hP b e'] at e; cases e
          cases d
    have nsK : ∀ {b : Addr} {m : Str -> Option Value}, s₁.heap.Ns b m -> (hidT s₁.heap H).Ns b m := λ {b m} ⟨o, es, ep, e, d, r⟩ => ⟨o, es, ep, base_of e (noA e d), d, r⟩
    have hKb : K.In (hidT s₁.heap H) := λ b o e => base_of (KX b o e) (by
      cases q : H b with
      | none => rfl
      | some u =>
        rcases hA b (by rw [q]; simp) with e' | e'
        . subst e'
          rw [hK (by rw [q]; simp)] at e; cases e
        . rw [hPK b e'] at e; cases e)
    have hM : Mod K mg (hidT s₁.heap H) := ⟨hKb, nsK hns, ⟨mb, nsK hb, hbb⟩, let ⟨mc, h1, h2⟩ := hlim; ⟨mc, nsK h1, h2⟩⟩
    have e0 : Env0 Pg w K mg (hidT s₁.heap H) callerA [] s₁ H := ⟨rfl, hM, λ b o e => of_hidT e, Nat.le_of_eq (hidT_size _ _), trivial, λ b hb => absurd (show b ∈ ([] : List Addr) from hb) (by simp), hok, .of_eq hg⟩
    have hsp : spF K 1 F [.ref a] H (λ v _ => v = .bl true) λ _ _ _ => False := by
      obtain ⟨hd', e⟩ := hF
      refine ⟨rfl, [], [], [.ro ns], .im (.bl true), hd', ⟨rfl, List.nodup_nil, λ y hy => ?_, λ n o a h => by simp at h⟩, ?_, e, λ ρ' H' v _ _ r => ?_⟩
      . rw [htab] at hy
        obtain ⟨t, ht, rfl⟩ := List.mem_map.mp hy
        exact ⟨#[], hHP t.1 (List.mem_map.mpr ⟨t, ht, rfl⟩), .inl rfl⟩
      . simp only [RDs, RD]
        refine ⟨_, _, rfl, ⟨a, rfl, ro_of hS λ ys z => ?_⟩, rfl⟩
        rcases hO a haP with q | ⟨o, ys, q⟩ <;> (rw [q] at z; cases z)
      . simpa only [RD, RI] using r
    refine codeAny_mono ((Fn _ hKb (nsK hns) λ b o n1 n2 e => base_of e (by
      cases q : H b with
      | none => rfl
      | some u => rcases hA b (by rw [q]; simp) with e' | e'
                  . exact absurd e' n2
                  . exact absurd e' n1)).run callerA [] s₁ H ⟨[.ref a], []⟩ [.ref a] [.ref a] _ _ hr e0 (hbind s₁ (.ref a)) (.cons rfl .nil) hsp) λ r s' h => ?_
    cases r with
    | error e => exact h.elim
    | ok fl =>
      cases fl with
      | next => exact False.elim h
      | brk => exact False.elim h
      | cont => exact False.elim h
      | ret u =>
        obtain ⟨v, H', os, bare, un, hok', r', q⟩ := h
        have q' : v = .bl true := q
        subst q'
        obtain rfl : u = Value.bool true := r'
        have keep : ∀ b o, b ∉ ts.map (·.1) -> s₁.heap.get? b = some o -> s'.heap.get? b = some o := λ b o nb e => by
          cases q : H b with
          | none => exact un.keep b o e q (by intro z; exact absurd (show b ∈ ([] : List Addr) from z) (by simp)) (by simp)
          | some u =>
            rcases hO b nb with z | ⟨ob, xs, z⟩
            . rw [q] at z; cases z
            . have z2 := un.frzs b ob _ z
              obtain ⟨e1, _⟩ := hok b _ z
              obtain ⟨e2, _⟩ := hok' b _ z2
              rw [e] at e1; cases e1
              exact e2
        refine ⟨rfl, ⟨λ b o e => ?_, λ b o e => ?_⟩, os, bare⟩
        . by_cases nb : b ∈ ts.map (·.1)
          . obtain ⟨cc, tb⟩ := hT b nb
            obtain ⟨more, hm⟩ := un.tbls b #[] (hHP b nb)
            have hb' : s'.heap.get? b = some (tabObj (#[] ++ more)) := hok' b _ hm
            rw [hP b nb] at e; cases e
            exact .inr (.inl ⟨tb.isCodeTable, rfl, #[], more, rfl, hb'⟩)
          . exact .inl (keep b o nb e)
        . by_cases nb : b ∈ ts.map (·.1)
          . obtain ⟨more, hm⟩ := un.tbls b #[] (hHP b nb)
            exact ⟨_, hok' b _ hm⟩
          . exact ⟨o, keep b o nb e⟩
  cases hk : K.lookup a with
  | some o =>
    have e := KX a o hk
    rw [ha] at e
    cases e
    refine core (λ b => if b ∈ ts.map (·.1) then some (.tbl #[]) else none) (λ b nb => .inl (if_neg nb)) (λ P hp => if_pos hp) (.inr ⟨_, vs.toArray, _, hk, rfl, rfl, rfl, by rw [List.size_toArray, lenV]; exact hl, by simpa using rv⟩) (λ b u z => ?_) (λ b z => ?_) λ z => absurd (if_neg haP) z
    . by_cases hb : b ∈ ts.map (·.1)
      . have z' := (if_pos hb).symm.trans z
        cases z'
        exact hP b hb
      . have z' := (if_neg hb).symm.trans z
        cases z'
    . by_cases hb : b ∈ ts.map (·.1)
      . exact .inr hb
      . exact absurd (if_neg hb) z
  | none =>
    refine core (λ b => if b ∈ ts.map (·.1) then some (.tbl #[]) else if b = a then some (.frz { cls := .type "list", data := .seq vs.toArray } (.lst (ns.map V.int))) else none) (λ b nb => ?_) (λ P hp => if_pos hp) (.inl (.inr ⟨{ cls := .type "list", data := .seq vs.toArray }, (if_neg haP).trans (if_pos rfl)⟩)) (λ b u z => ?_) (λ b z => ?_) λ _ => hk
    . rw [if_neg nb]
      by_cases hb : b = a
      . exact .inr ⟨_, _, if_pos hb⟩
      . exact .inl (if_neg hb)
    . by_cases hp : b ∈ ts.map (·.1)
      . have z' := (if_pos hp).symm.trans z
        cases z'
        exact hP b hp
      . have z := (if_neg hp).symm.trans z
        by_cases hb : b = a
        . have z' := (if_pos hb).symm.trans z
          cases z'
          subst hb
          exact ⟨ha, by rw [List.length_map]; exact hl, vs, _, rv, ha⟩
        . have z' := (if_neg hb).symm.trans z
          cases z'
    . by_cases hp : b ∈ ts.map (·.1)
      . exact .inr hp
      . by_cases hb : b = a
        . exact .inl hb
        . exact absurd ((if_neg hp).trans (if_neg hb)) z
theorem walkL {l : PySem.W.OpenLaw} {n k : Nat} {q : Program} {loose : List Str} {XP : (Str -> Option Value) -> Heap -> Prop} {YP : World -> Heap -> Prop} {d : DefRec} {K : Params -> PySem.W.Frag} {F : List D -> Hd -> Option (D × Hd)} (xs : List (Str × Str × Nat × Nat))
    (hn : l.most = some n) (hn2 : n <= sizeLine) (hdf : d.params.defaults = []) (hr : Room k callerA) (hdr : ∀ x ∈ xs, ∃ dr, (recsOf q).find? (λ e => e.name == x.1) = some dr)
    (hF : ∀ ns : List Int, ∃ hd', F [.ro ns] [] = some (.im (.bl true), hd'))
    (hY : ∀ (w : World) (h : Heap), YP w h -> (K w.params).In h)
    (G : ∀ (w : World) (mg : Str -> Option Value) (fa : Addr) (h : Heap) (c P : Str -> Addr), (K w.params).In h -> h.Ns mainGlobals mg -> mg d.name = some (.ref fa) ->
      (∀ x ∈ xs, h.get? (P x.1) = some (tabObj #[]) /\ CodeHd h (c x.1) (P x.1) /\ ∃ a o fd, mg x.1 = some (.ref a) /\ h.get? a = some o /\ o.data = .func fd /\ fd.code = .ref (c x.1)) ->
      (∃ g, (K w.params).lookup mainGlobals = some g) /\ ∃ fd : FuncData, (∀ (s : Shared) (u : Value), BindsTo s fd ⟨[u], []⟩ [("_law_script", u)]) /\
        ∀ base : Heap, (markK (K w.params) (xs.map λ x => (P x.1, x.2))).In base -> base.Ns mainGlobals mg -> (∀ x ∈ xs, CodeHd base (c x.1) (P x.1)) -> (∀ x ∈ xs, base.BuiltinsAt mg (P x.1)) -> FnOk l.prog w (markK (K w.params) (xs.map λ x => (P x.1, x.2))) mg base CX0 k fa fd ["_law_script"] (spF (markK (K w.params) (xs.map λ x => (P x.1, x.2))) 1 F)) :
    PySem.W.WalkO q loose XP YP l.row.toRowW d [] (λ f vs => PySem.call f vs) := by
  refine Att.attach_call hn hdf λ w s₀ s₁ mg mb fa o pm cd doc a vs ns Gr Y ho hd hcd hmg hobj hints hlen hg => ?_
  have KX := hY w _ Y
  have each : ∀ x : Str, ∃ cp : Addr × Addr, (∃ y ∈ xs, y.1 = x) -> (∃ cc, s₁.heap.TableAt cc cp.2 #[]) /\ CodeHd s₁.heap cp.1 cp.2 /\ ∃ a o fd, mg x = some (.ref a) /\ s₁.heap.get? a = some o /\ o.data = .func fd /\ fd.code = .ref cp.1 := by
    intro x
    by_cases hx : ∃ y ∈ xs, y.1 = x
    . obtain ⟨y, hy, rfl⟩ := hx
      obtain ⟨dr, hdr⟩ := hdr y hy
      have hnm : dr.name = y.1 := beq_iff_eq.mp (List.find?_some (p := λ e : DefRec => e.name == y.1) hdr)
      obtain ⟨a', o', fd', c, P, h1, h2, h3, h4, h5, h6⟩ := Gr.T.tab dr (List.mem_of_find?_eq_some hdr)
      rw [hnm] at h1
      exact ⟨(c, P), λ _ => ⟨⟨_, h6⟩, CodeHd.of h5 h6, a', o', fd', h1, h2, h3, h4⟩⟩
    . exact ⟨(0, 0), λ h => absurd h hx⟩
  obtain ⟨cp, hcp⟩ := Classical.skolem.mp each
  have hcp : ∀ x ∈ xs, (∃ cc, s₁.heap.TableAt cc (cp x.1).2 #[]) /\ CodeHd s₁.heap (cp x.1).1 (cp x.1).2 /\ ∃ a o fd, mg x.1 = some (.ref a) /\ s₁.heap.get? a = some o /\ o.data = .func fd /\ fd.code = .ref (cp x.1).1 := λ x hx => hcp x.1 ⟨x, hx, rfl⟩
  have hts : ∀ P ∈ (xs.map λ x => ((cp x.1).2, x.2)).map (·.1), ∃ x ∈ xs, P = (cp x.1).2 := λ P hP => by
    obtain ⟨t, ht, rfl⟩ := List.mem_map.mp hP
    obtain ⟨x, hx, rfl⟩ := List.mem_map.mp ht
    exact ⟨x, hx, rfl⟩
  have hP : ∀ x ∈ xs, s₁.heap.get? (cp x.1).2 = some (tabObj #[]) := λ x hx => by
    obtain ⟨⟨cc, t⟩, _⟩ := hcp x hx; exact t.2
  have hmP : mainGlobals ∉ (xs.map λ x => ((cp x.1).2, x.2)).map (·.1) := λ z => by
    obtain ⟨x, hx, ez⟩ := hts _ z
    obtain ⟨o, es, ep, e, dd, _⟩ := Gr.T.g
    rw [ez, hP x hx] at e; cases e; cases dd
  obtain ⟨⟨g, hgl⟩, fd, hb, hFn⟩ := G w mg fa _ (λ x => (cp x).1) (λ x => (cp x).2) KX Gr.T.g hmg λ x hx => ⟨hP x hx, (hcp x hx).2⟩
  refine law_callT (ts := xs.map λ x => ((cp x.1).2, x.2)) (K := markK (K w.params) (xs.map λ x => ((cp x.1).2, x.2))) (mark_in KX hgl hmP) Gr.T.g Gr.T.b Gr.T.builtins Gr.T.nolimit hg hobj hints (Nat.le_trans hlen hn2) hr (λ P hp => by obtain ⟨x, hx, rfl⟩ := hts P hp; exact (hcp x hx).1) (λ P hp => mark_no hmP hp) (tabs_mark _ _) (λ base kb nb keep => hFn base kb nb (λ x hx => ?_) λ x hx => ?_) hb (hF ns)
  . obtain ⟨oc, vs', file, tf, flags, tg, inF, text, tt, e1, r1, r2, r3, r4, r5, r6, r7, r8, hne⟩ := (hcp x hx).2.1
    have hn : (cp x.1).1 ∉ (xs.map λ x => ((cp x.1).2, x.2)).map (·.1) := λ z => by
      obtain ⟨y, hy, ez⟩ := hts _ z
      rw [ez, hP y hy] at e1; cases e1; cases r1
    exact ⟨oc, vs', file, tf, flags, tg, inF, text, tt, keep (cp x.1).1 oc hn (λ z => by rw [z, hobj] at e1; cases e1; exact absurd (show Value.type "list" = Value.type "code" from r1) (by decide)) e1, r1, r2, r3, r4, r5, r6, r7, r8, hne⟩
  . obtain ⟨bm, ob, b1, b2, b3, b4, b5, b6⟩ := Gr.T.bmain
    have nP : ∀ y ∈ xs, bm ≠ (cp y.1).2 := λ y hy z => by rw [z, hP y hy] at b3; cases b3; cases b4
    have hn : bm ∉ (xs.map λ x => ((cp x.1).2, x.2)).map (·.1) := λ z => by
      obtain ⟨y, hy, ez⟩ := hts _ z
      exact nP y hy ez
    refine ⟨bm, ob, b1, b2, λ z => ?_, nP x hx, keep bm ob hn (λ z => by rw [z, hobj] at b3; cases b3; exact absurd (show Value.type "list" = Value.type "module" from b4) (by decide)) b3, b4, b5, b6⟩
    obtain ⟨o, es, ep, e, dd, _⟩ := Gr.T.g
    rw [<- z, b3] at e; cases e; rw [b6] at dd; cases dd
end L2
namespace T39
open PySem L2 PySem.W PyProof.Rows
abbrev x_by_dues : Str × Str × Nat × Nat := ("by_dues", ((("by_dues" : Str) ++ ".<locals>.") ++ "<lambda>"), 30, 41)
abbrev xS : List (Str × Str × Nat × Nat) := [x_by_dues]
abbrev tS (P : Str -> Addr) : List Tb := xS.map λ x => (P x.1, x.2)
theorem all_mk {l : OpenLaw} {w : World} {K : Frag} {h : Heap} {mg : Str -> Option Value} {fa f0 f1 f2 f3 f4 f5 f6 f7 f8 f9 f10 f11 f12 f13 f14 f15 f16 f17 f18 f19 f20 f21 : Addr} (X : K.In h) (G : h.Ns mainGlobals mg) {c P : Str -> Addr} (hfa : mg "law" = some (.ref fa)) (hx : ∀ x ∈ xS, h.get? (P x.1) = some (tabObj #[]) /\ CodeHd h (c x.1) (P x.1) /\ ∃ a o fd, mg x.1 = some (.ref a) /\ h.get? a = some o /\ o.data = .func fd /\ fd.code = .ref (c x.1))
    {od0 an0 od1 an1 od2 an2 od3 an3 od4 an4 od5 an5 od6 an6 od7 an7 od8 an8 od9 an9 od10 an10 od11 an11 od12 an12 od13 an13 od14 an14 od15 an15 od16 an16 od17 an17 od18 an18 od19 an19 od20 an20 od21 an21 : Option Addr} {sl0 sl1 sl2 sl3 sl4 sl5 sl6 sl7 sl8 sl9 sl10 sl11 sl12 sl13 sl14 sl15 sl16 sl17 sl18 sl19 sl20 sl21 : Array (Option Value)} {oc0 kV0 dc0 pm0 cd0 ct0 oc1 kV1 dc1 pm1 cd1 ct1 oc2 kV2 dc2 pm2 cd2 ct2 oc3 kV3 dc3 pm3 cd3 ct3 oc4 kV4 dc4 pm4 cd4 ct4 oc5 kV5 dc5 pm5 cd5 ct5 oc6 kV6 dc6 pm6 cd6 ct6 oc7 kV7 dc7 pm7 cd7 ct7 oc8 kV8 dc8 pm8 cd8 ct8 oc9 kV9 dc9 pm9 cd9 ct9 oc10 kV10 dc10 pm10 cd10 ct10 oc11 kV11 dc11 pm11 cd11 ct11 oc12 kV12 dc12 pm12 cd12 ct12 oc13 kV13 dc13 pm13 cd13 ct13 oc14 kV14 dc14 pm14 cd14 ct14 oc15 kV15 dc15 pm15 cd15 ct15 oc16 kV16 dc16 pm16 cd16 ct16 oc17 kV17 dc17 pm17 cd17 ct17 oc18 kV18 dc18 pm18 cd18 ct18 oc19 kV19 dc19 pm19 cd19 ct19 oc20 kV20 dc20 pm20 cd20 ct20 oc21 kV21 dc21 pm21 cd21 ct21 : Value}
     (a0 : nsIn K mainGlobals "law" = some (some (.ref f0))) (l0 : K.lookup f0 = some ⟨oc0, od0, .func (fnOf "law" "law" (defArgs s_law) (defBody s_law) (defScope s_law) .none kV0 dc0 pm0 an0 cd0 ct0), sl0⟩) (c0 : codeIn K cd0 "law" = true) (k0 : keepIn K (.ref f0) = true)
    (a1 : nsIn K mainGlobals "_law_source" = some (some (.ref f1))) (l1 : K.lookup f1 = some ⟨oc1, od1, .func (fnOf "_law_source" "_law_source" (defArgs s_source) (defBody s_source) (defScope s_source) .none kV1 dc1 pm1 an1 cd1 ct1), sl1⟩) (c1 : codeIn K cd1 "_law_source" = true) (k1 : keepIn K (.ref f1) = true)
    (a2 : nsIn K mainGlobals "_law_pick" = some (some (.ref f2))) (l2 : K.lookup f2 = some ⟨oc2, od2, .func (fnOf "_law_pick" "_law_pick" (defArgs s_pick) (defBody s_pick) (defScope s_pick) .none kV2 dc2 pm2 an2 cd2 ct2), sl2⟩) (c2 : codeIn K cd2 "_law_pick" = true) (k2 : keepIn K (.ref f2) = true)
    (a3 : nsIn K mainGlobals "_law_late_works" = some (some (.ref f3))) (l3 : K.lookup f3 = some ⟨oc3, od3, .func (fnOf "_law_late_works" "_law_late_works" (defArgs s_late_works) (defBody s_late_works) (defScope s_late_works) .none kV3 dc3 pm3 an3 cd3 ct3), sl3⟩) (c3 : codeIn K cd3 "_law_late_works" = true) (k3 : keepIn K (.ref f3) = true)
    (a4 : nsIn K mainGlobals "_law_far" = some (some (.ref f4))) (l4 : K.lookup f4 = some ⟨oc4, od4, .func (fnOf "_law_far" "_law_far" (defArgs s_far) (defBody s_far) (defScope s_far) .none kV4 dc4 pm4 an4 cd4 ct4), sl4⟩) (c4 : codeIn K cd4 "_law_far" = true) (k4 : keepIn K (.ref f4) = true)
    (a5 : nsIn K mainGlobals "_law_by_dues" = some (some (.ref f5))) (l5 : K.lookup f5 = some ⟨oc5, od5, .func (fnOf "_law_by_dues" "_law_by_dues" (defArgs s_lby_dues) (defBody s_lby_dues) (defScope s_lby_dues) .none kV5 dc5 pm5 an5 cd5 ct5), sl5⟩) (c5 : codeIn K cd5 "_law_by_dues" = true) (k5 : keepIn K (.ref f5) = true)
    (a6 : nsIn K mainGlobals "_law_sets" = some (some (.ref f6))) (l6 : K.lookup f6 = some ⟨oc6, od6, .func (fnOf "_law_sets" "_law_sets" (defArgs s_sets) (defBody s_sets) (defScope s_sets) .none kV6 dc6 pm6 an6 cd6 ct6), sl6⟩) (c6 : codeIn K cd6 "_law_sets" = true) (k6 : keepIn K (.ref f6) = true)
    (a7 : nsIn K mainGlobals "weight_of" = some (some (.ref f7))) (l7 : K.lookup f7 = some ⟨oc7, od7, .func (fnOf "weight_of" "weight_of" (defArgs s_weight_of) (defBody s_weight_of) (defScope s_weight_of) .none kV7 dc7 pm7 an7 cd7 ct7), sl7⟩) (c7 : codeIn K cd7 "weight_of" = true) (k7 : keepIn K (.ref f7) = true)
    (a8 : nsIn K mainGlobals "by_dues" = some (some (.ref f8))) (l8 : K.lookup f8 = some ⟨oc8, od8, .func (fnOf "by_dues" "by_dues" (defArgs s_by_dues) (defBody s_by_dues) (defScope s_by_dues) .none kV8 dc8 pm8 an8 cd8 ct8), sl8⟩) (c8 : codeIn K cd8 "by_dues" = true) (k8 : keepIn K (.ref f8) = true)
    (a9 : nsIn K mainGlobals "full_weight" = some (some (.ref f9))) (l9 : K.lookup f9 = some ⟨oc9, od9, .func (fnOf "full_weight" "full_weight" (defArgs s_full_weight) (defBody s_full_weight) (defScope s_full_weight) .none kV9 dc9 pm9 an9 cd9 ct9), sl9⟩) (c9 : codeIn K cd9 "full_weight" = true) (k9 : keepIn K (.ref f9) = true)
    (a10 : nsIn K mainGlobals "same_coming" = some (some (.ref f10))) (l10 : K.lookup f10 = some ⟨oc10, od10, .func (fnOf "same_coming" "same_coming" (defArgs s_same_coming) (defBody s_same_coming) (defScope s_same_coming) .none kV10 dc10 pm10 an10 cd10 ct10), sl10⟩) (c10 : codeIn K cd10 "same_coming" = true) (k10 : keepIn K (.ref f10) = true)
    (a11 : nsIn K mainGlobals "one_coming" = some (some (.ref f11))) (l11 : K.lookup f11 = some ⟨oc11, od11, .func (fnOf "one_coming" "one_coming" (defArgs s_one_coming) (defBody s_one_coming) (defScope s_one_coming) .none kV11 dc11 pm11 an11 cd11 ct11), sl11⟩) (c11 : codeIn K cd11 "one_coming" = true) (k11 : keepIn K (.ref f11) = true)
    (a12 : nsIn K mainGlobals "refuse_other_costs" = some (some (.ref f12))) (l12 : K.lookup f12 = some ⟨oc12, od12, .func (fnOf "refuse_other_costs" "refuse_other_costs" (defArgs s_refuse_other_costs) (defBody s_refuse_other_costs) (defScope s_refuse_other_costs) .none kV12 dc12 pm12 an12 cd12 ct12), sl12⟩) (c12 : codeIn K cd12 "refuse_other_costs" = true) (k12 : keepIn K (.ref f12) = true)
    (a13 : nsIn K mainGlobals "late_coming" = some (some (.ref f13))) (l13 : K.lookup f13 = some ⟨oc13, od13, .func (fnOf "late_coming" "late_coming" (defArgs s_late_coming) (defBody s_late_coming) (defScope s_late_coming) .none kV13 dc13 pm13 an13 cd13 ct13), sl13⟩) (c13 : codeIn K cd13 "late_coming" = true) (k13 : keepIn K (.ref f13) = true)
    (a14 : nsIn K mainGlobals "no_more" = some (some (.ref f14))) (l14 : K.lookup f14 = some ⟨oc14, od14, .func (fnOf "no_more" "no_more" (defArgs s_no_more) (defBody s_no_more) (defScope s_no_more) .none kV14 dc14 pm14 an14 cd14 ct14), sl14⟩) (c14 : codeIn K cd14 "no_more" = true) (k14 : keepIn K (.ref f14) = true)
    (a15 : nsIn K mainGlobals "put_behind" = some (some (.ref f15))) (l15 : K.lookup f15 = some ⟨oc15, od15, .func (fnOf "put_behind" "put_behind" (defArgs s_put_behind) (defBody s_put_behind) (defScope s_put_behind) .none kV15 dc15 pm15 an15 cd15 ct15), sl15⟩) (c15 : codeIn K cd15 "put_behind" = true) (k15 : keepIn K (.ref f15) = true)
    (a16 : nsIn K mainGlobals "next_row" = some (some (.ref f16))) (l16 : K.lookup f16 = some ⟨oc16, od16, .func (fnOf "next_row" "next_row" (defArgs s_next_row) (defBody s_next_row) (defScope s_next_row) .none kV16 dc16 pm16 an16 cd16 ct16), sl16⟩) (c16 : codeIn K cd16 "next_row" = true) (k16 : keepIn K (.ref f16) = true)
    (a17 : nsIn K mainGlobals "table_of" = some (some (.ref f17))) (l17 : K.lookup f17 = some ⟨oc17, od17, .func (fnOf "table_of" "table_of" (defArgs s_table_of) (defBody s_table_of) (defScope s_table_of) .none kV17 dc17 pm17 an17 cd17 ct17), sl17⟩) (c17 : codeIn K cd17 "table_of" = true) (k17 : keepIn K (.ref f17) = true)
    (a18 : nsIn K mainGlobals "in_time" = some (some (.ref f18))) (l18 : K.lookup f18 = some ⟨oc18, od18, .func (fnOf "in_time" "in_time" (defArgs s_in_time) (defBody s_in_time) (defScope s_in_time) .none kV18 dc18 pm18 an18 cd18 ct18), sl18⟩) (c18 : codeIn K cd18 "in_time" = true) (k18 : keepIn K (.ref f18) = true)
    (a19 : nsIn K mainGlobals "_law_is_set" = some (some (.ref f19))) (l19 : K.lookup f19 = some ⟨oc19, od19, .func (fnOf "_law_is_set" "_law_is_set" (defArgs s_is_set) (defBody s_is_set) (defScope s_is_set) .none kV19 dc19 pm19 an19 cd19 ct19), sl19⟩) (c19 : codeIn K cd19 "_law_is_set" = true) (k19 : keepIn K (.ref f19) = true)
    (a20 : nsIn K mainGlobals "_law_end_in_time" = some (some (.ref f20))) (l20 : K.lookup f20 = some ⟨oc20, od20, .func (fnOf "_law_end_in_time" "_law_end_in_time" (defArgs s_end_in_time) (defBody s_end_in_time) (defScope s_end_in_time) .none kV20 dc20 pm20 an20 cd20 ct20), sl20⟩) (c20 : codeIn K cd20 "_law_end_in_time" = true) (k20 : keepIn K (.ref f20) = true)
    (a21 : nsIn K mainGlobals "_law_told_so" = some (some (.ref f21))) (l21 : K.lookup f21 = some ⟨oc21, od21, .func (fnOf "_law_told_so" "_law_told_so" (defArgs s_told_so) (defBody s_told_so) (defScope s_told_so) .none kV21 dc21 pm21 an21 cd21 ct21), sl21⟩) (c21 : codeIn K cd21 "_law_told_so" = true) (k21 : keepIn K (.ref f21) = true)
    (z_list : nsIn K mainGlobals "list" = some none)
    (z_tuple : nsIn K mainGlobals "tuple" = some none)
    (z_len : nsIn K mainGlobals "len" = some none)
    (z_range : nsIn K mainGlobals "range" = some none)
    (z_repr : nsIn K mainGlobals "repr" = some none)
    (z_sum : nsIn K mainGlobals "sum" = some none)
    (z_min : nsIn K mainGlobals "min" = some none)
    (z_max : nsIn K mainGlobals "max" = some none)
    (z_abs : nsIn K mainGlobals "abs" = some none)
    (z_all : nsIn K mainGlobals "all" = some none)
    (z_any : nsIn K mainGlobals "any" = some none)
    (z_sorted : nsIn K mainGlobals "sorted" = some none)
    (z_zip : nsIn K mainGlobals "zip" = some none)
    (z_isinstance : nsIn K mainGlobals "isinstance" = some none)
    (z_int : nsIn K mainGlobals "int" = some none)
    (z_bool : nsIn K mainGlobals "bool" = some none)
    (z_str : nsIn K mainGlobals "str" = some none)
    (z_set : nsIn K mainGlobals "set" = some none)
    (z_enumerate : nsIn K mainGlobals "enumerate" = some none)
    (z_reversed : nsIn K mainGlobals "reversed" = some none)
    (z_dict : nsIn K mainGlobals "dict" = some none) :
    (∃ g, K.lookup mainGlobals = some g) /\ ∃ fd : FuncData, (∀ (s : Shared) (v : Value), BindsTo s fd ⟨[v], []⟩ [("_law_script", v)]) /\ ∀ base : Heap, (markK K (tS P)).In base -> base.Ns mainGlobals mg -> (∀ x ∈ xS, CodeHd base (c x.1) (P x.1)) -> (∀ x ∈ xS, base.BuiltinsAt mg (P x.1)) -> FnOk l.prog w (markK K (tS P)) mg base CX0 8 fa fd ["_law_script"] (spF (markK K (tS P)) 1 F_law) := by
  have hP : ∀ P' ∈ (tS P).map (·.1), h.get? P' = some (tabObj #[]) := λ P' hp => by
    obtain ⟨t, ht, rfl⟩ := List.mem_map.mp hp
    obtain ⟨x, hxx, rfl⟩ := List.mem_map.mp ht
    exact (hx x hxx).1
  have e := hfa.symm.trans (mg_of X G a0)
  cases e
  have F0 := Fun.mark (ts := tS P) (fun_mk (st := s_law) l0 c0 k0) X hP
  have D0 : DefAt (markK K (tS P)) mg "law" s_law _ _ ["_law_script"] := ⟨F0, mg_of X G a0, F0.binds (ps := ["_law_script"]) λ _ _ _ _ _ _ us hl => match us, hl with | [_], _ => rfl⟩
  have F1 := Fun.mark (ts := tS P) (fun_mk (st := s_source) l1 c1 k1) X hP
  have D1 : DefAt (markK K (tS P)) mg "_law_source" s_source _ _ ["_law_script"] := ⟨F1, mg_of X G a1, F1.binds (ps := ["_law_script"]) λ _ _ _ _ _ _ us hl => match us, hl with | [_], _ => rfl⟩
  have F2 := Fun.mark (ts := tS P) (fun_mk (st := s_pick) l2 c2 k2) X hP
  have D2 : DefAt (markK K (tS P)) mg "_law_pick" s_pick _ _ ["_law_source_here", "_law_many"] := ⟨F2, mg_of X G a2, F2.binds (ps := ["_law_source_here", "_law_many"]) λ _ _ _ _ _ _ us hl => match us, hl with | [_, _], _ => rfl⟩
  have F3 := Fun.mark (ts := tS P) (fun_mk (st := s_late_works) l3 c3 k3) X hP
  have D3 : DefAt (markK K (tS P)) mg "_law_late_works" s_late_works _ _ ["_law_source_here", "_law_most"] := ⟨F3, mg_of X G a3, F3.binds (ps := ["_law_source_here", "_law_most"]) λ _ _ _ _ _ _ us hl => match us, hl with | [_, _], _ => rfl⟩
  have F4 := Fun.mark (ts := tS P) (fun_mk (st := s_far) l4 c4 k4) X hP
  have D4 : DefAt (markK K (tS P)) mg "_law_far" s_far _ _ ["_law_source_here", "_law_works"] := ⟨F4, mg_of X G a4, F4.binds (ps := ["_law_source_here", "_law_works"]) λ _ _ _ _ _ _ us hl => match us, hl with | [_, _], _ => rfl⟩
  have F5 := Fun.mark (ts := tS P) (fun_mk (st := s_lby_dues) l5 c5 k5) X hP
  have D5 : DefAt (markK K (tS P)) mg "_law_by_dues" s_lby_dues _ _ ["_law_works"] := ⟨F5, mg_of X G a5, F5.binds (ps := ["_law_works"]) λ _ _ _ _ _ _ us hl => match us, hl with | [_], _ => rfl⟩
  have F6 := Fun.mark (ts := tS P) (fun_mk (st := s_sets) l6 c6 k6) X hP
  have D6 : DefAt (markK K (tS P)) mg "_law_sets" s_sets _ _ ["_law_works"] := ⟨F6, mg_of X G a6, F6.binds (ps := ["_law_works"]) λ _ _ _ _ _ _ us hl => match us, hl with | [_], _ => rfl⟩
  have F7 := Fun.mark (ts := tS P) (fun_mk (st := s_weight_of) l7 c7 k7) X hP
  have D7 : DefAt (markK K (tS P)) mg "weight_of" s_weight_of _ _ ["work"] := ⟨F7, mg_of X G a7, F7.binds (ps := ["work"]) λ _ _ _ _ _ _ us hl => match us, hl with | [_], _ => rfl⟩
  have F8 := Fun.mark (ts := tS P) (fun_mk (st := s_by_dues) l8 c8 k8) X hP
  have D8 : DefAt (markK K (tS P)) mg "by_dues" s_by_dues _ _ ["works"] := ⟨F8, mg_of X G a8, F8.binds (ps := ["works"]) λ _ _ _ _ _ _ us hl => match us, hl with | [_], _ => rfl⟩
  have F9 := Fun.mark (ts := tS P) (fun_mk (st := s_full_weight) l9 c9 k9) X hP
  have D9 : DefAt (markK K (tS P)) mg "full_weight" s_full_weight _ _ ["works"] := ⟨F9, mg_of X G a9, F9.binds (ps := ["works"]) λ _ _ _ _ _ _ us hl => match us, hl with | [_], _ => rfl⟩
  have F10 := Fun.mark (ts := tS P) (fun_mk (st := s_same_coming) l10 c10 k10) X hP
  have D10 : DefAt (markK K (tS P)) mg "same_coming" s_same_coming _ _ ["works"] := ⟨F10, mg_of X G a10, F10.binds (ps := ["works"]) λ _ _ _ _ _ _ us hl => match us, hl with | [_], _ => rfl⟩
  have F11 := Fun.mark (ts := tS P) (fun_mk (st := s_one_coming) l11 c11 k11) X hP
  have D11 : DefAt (markK K (tS P)) mg "one_coming" s_one_coming _ _ ["works"] := ⟨F11, mg_of X G a11, F11.binds (ps := ["works"]) λ _ _ _ _ _ _ us hl => match us, hl with | [_], _ => rfl⟩
  have F12 := Fun.mark (ts := tS P) (fun_mk (st := s_refuse_other_costs) l12 c12 k12) X hP
  have D12 : DefAt (markK K (tS P)) mg "refuse_other_costs" s_refuse_other_costs _ _ ["works", "word"] := ⟨F12, mg_of X G a12, F12.binds (ps := ["works", "word"]) λ _ _ _ _ _ _ us hl => match us, hl with | [_, _], _ => rfl⟩
  have F13 := Fun.mark (ts := tS P) (fun_mk (st := s_late_coming) l13 c13 k13) X hP
  have D13 : DefAt (markK K (tS P)) mg "late_coming" s_late_coming _ _ ["works"] := ⟨F13, mg_of X G a13, F13.binds (ps := ["works"]) λ _ _ _ _ _ _ us hl => match us, hl with | [_], _ => rfl⟩
  have F14 := Fun.mark (ts := tS P) (fun_mk (st := s_no_more) l14 c14 k14) X hP
  have D14 : DefAt (markK K (tS P)) mg "no_more" s_no_more _ _ ["one", "other"] := ⟨F14, mg_of X G a14, F14.binds (ps := ["one", "other"]) λ _ _ _ _ _ _ us hl => match us, hl with | [_, _], _ => rfl⟩
  have F15 := Fun.mark (ts := tS P) (fun_mk (st := s_put_behind) l15 c15 k15) X hP
  have D15 : DefAt (markK K (tS P)) mg "put_behind" s_put_behind _ _ ["row", "work", "w"] := ⟨F15, mg_of X G a15, F15.binds (ps := ["row", "work", "w"]) λ _ _ _ _ _ _ us hl => match us, hl with | [_, _, _], _ => rfl⟩
  have F16 := Fun.mark (ts := tS P) (fun_mk (st := s_next_row) l16 c16 k16) X hP
  have D16 : DefAt (markK K (tS P)) mg "next_row" s_next_row _ _ ["above", "work"] := ⟨F16, mg_of X G a16, F16.binds (ps := ["above", "work"]) λ _ _ _ _ _ _ us hl => match us, hl with | [_, _], _ => rfl⟩
  have F17 := Fun.mark (ts := tS P) (fun_mk (st := s_table_of) l17 c17 k17) X hP
  have D17 : DefAt (markK K (tS P)) mg "table_of" s_table_of _ _ ["works"] := ⟨F17, mg_of X G a17, F17.binds (ps := ["works"]) λ _ _ _ _ _ _ us hl => match us, hl with | [_], _ => rfl⟩
  have F18 := Fun.mark (ts := tS P) (fun_mk (st := s_in_time) l18 c18 k18) X hP
  have D18 : DefAt (markK K (tS P)) mg "in_time" s_in_time _ _ ["works", "w"] := ⟨F18, mg_of X G a18, F18.binds (ps := ["works", "w"]) λ _ _ _ _ _ _ us hl => match us, hl with | [_, _], _ => rfl⟩
  have F19 := Fun.mark (ts := tS P) (fun_mk (st := s_is_set) l19 c19 k19) X hP
  have D19 : DefAt (markK K (tS P)) mg "_law_is_set" s_is_set _ _ ["_law_many", "_law_some"] := ⟨F19, mg_of X G a19, F19.binds (ps := ["_law_many", "_law_some"]) λ _ _ _ _ _ _ us hl => match us, hl with | [_, _], _ => rfl⟩
  have F20 := Fun.mark (ts := tS P) (fun_mk (st := s_end_in_time) l20 c20 k20) X hP
  have D20 : DefAt (markK K (tS P)) mg "_law_end_in_time" s_end_in_time _ _ ["_law_works", "_law_some"] := ⟨F20, mg_of X G a20, F20.binds (ps := ["_law_works", "_law_some"]) λ _ _ _ _ _ _ us hl => match us, hl with | [_, _], _ => rfl⟩
  have F21 := Fun.mark (ts := tS P) (fun_mk (st := s_told_so) l21 c21 k21) X hP
  have D21 : DefAt (markK K (tS P)) mg "_law_told_so" s_told_so _ _ ["_law_works", "_law_weight", "_law_ends"] := ⟨F21, mg_of X G a21, F21.binds (ps := ["_law_works", "_law_weight", "_law_ends"]) λ _ _ _ _ _ _ us hl => match us, hl with | [_, _, _], _ => rfl⟩
  have B : BltA mg := ⟨mg_none_of X G z_list, mg_none_of X G z_tuple, mg_none_of X G z_len, mg_none_of X G z_range, mg_none_of X G z_repr, mg_none_of X G z_sum, mg_none_of X G z_min, mg_none_of X G z_max, mg_none_of X G z_abs, mg_none_of X G z_all, mg_none_of X G z_any, mg_none_of X G z_sorted, mg_none_of X G z_zip, mg_none_of X G z_isinstance, mg_none_of X G z_int, mg_none_of X G z_bool, mg_none_of X G z_str, mg_none_of X G z_set, mg_none_of X G z_enumerate, mg_none_of X G z_reversed, mg_none_of X G z_dict⟩
  have hcd_by_dues : (cd8 : Value) = .ref (c "by_dues") := by
    obtain ⟨_, _, a, ob, fd, h1, h2, h3, h4⟩ := hx _ (show x_by_dues ∈ xS by simp [xS])
    have e1 := h1.symm.trans (mg_of X G a8)
    cases e1
    have e2 := h2.symm.trans (X _ _ l8)
    cases e2
    cases h3
    exact h4
  have nd : ((tabsOf (markK K (tS P))).map (·.1)).Nodup := by rw [tabs_mark]; simp
  have hg : ∃ g, K.lookup mainGlobals = some g := by
    cases e : K.lookup mainGlobals with
    | some g => exact ⟨g, rfl⟩
    | none => have z := a0; unfold nsIn at z; rw [e] at z; cases z
  refine ⟨hg, fnOf "law" "law" (defArgs s_law) (defBody s_law) (defScope s_law) .none kV0 dc0 pm0 an0 cd0 ct0, λ s v => .of_eq rfl, λ base _ _ hd bl => ?_⟩
  have LC_by_dues : LamC (markK K (tS P)) mg base (fnOf "by_dues" "by_dues" (defArgs s_by_dues) (defBody s_by_dues) (defScope s_by_dues) .none kV8 dc8 pm8 an8 cd8 ct8) (c "by_dues") (P "by_dues") ((("by_dues" : Str) ++ ".<locals>.") ++ "<lambda>") ⟨30, 41, 30, 70⟩ := ⟨hcd_by_dues, hd _ (show x_by_dues ∈ xS by simp [xS]), bl _ (show x_by_dues ∈ xS by simp [xS]), ⟨30, 41, 0, 0⟩, by rw [tabs_mark]; exact List.mem_map.mpr ⟨(P x_by_dues.1, x_by_dues.2), List.mem_map.mpr ⟨x_by_dues, by simp [xS], rfl⟩, rfl⟩, nd, rfl, rfl⟩
  have G_source := T39.ok_source (P := l.prog) (w := w) (base := base) D1  B
  have G_pick := T39.ok_pick (P := l.prog) (w := w) (base := base) D2  B
  have G_late_works := T39.ok_late_works (P := l.prog) (w := w) (base := base) D3 D2 G_pick B
  have G_far := T39.ok_far (P := l.prog) (w := w) (base := base) D4 D2 G_pick B
  have G_lby_dues := T39.ok_lby_dues (P := l.prog) (w := w) (base := base) D5  B
  have G_sets := T39.ok_sets (P := l.prog) (w := w) (base := base) D6 D5 G_lby_dues B
  have G_weight_of := T39.ok_weight_of (P := l.prog) (w := w) (base := base) D7  B
  have G_by_dues := T39.ok_by_dues (P := l.prog) (w := w) (base := base) D8  LC_by_dues B
  have G_full_weight := T39.ok_full_weight (P := l.prog) (w := w) (base := base) D9 D7 G_weight_of B
  have G_same_coming := T39.ok_same_coming (P := l.prog) (w := w) (base := base) D10  B
  have G_one_coming := T39.ok_one_coming (P := l.prog) (w := w) (base := base) D11 D10 G_same_coming B
  have G_refuse_other_costs := T39.ok_refuse_other_costs (P := l.prog) (w := w) (base := base) D12  B
  have G_late_coming := T39.ok_late_coming (P := l.prog) (w := w) (base := base) D13 D11 G_one_coming D12 G_refuse_other_costs B
  have G_no_more := T39.ok_no_more (P := l.prog) (w := w) (base := base) D14  B
  have G_put_behind := T39.ok_put_behind (P := l.prog) (w := w) (base := base) D15  B
  have G_next_row := T39.ok_next_row (P := l.prog) (w := w) (base := base) D16 D14 G_no_more D15 G_put_behind B
  have G_table_of := T39.ok_table_of (P := l.prog) (w := w) (base := base) D17 D13 G_late_coming D8 G_by_dues D9 G_full_weight D16 G_next_row B
  have G_in_time := T39.ok_in_time (P := l.prog) (w := w) (base := base) D18 D7 G_weight_of D8 G_by_dues D9 G_full_weight D17 G_table_of B
  have G_is_set := T39.ok_is_set (P := l.prog) (w := w) (base := base) D19  B
  have G_end_in_time := T39.ok_end_in_time (P := l.prog) (w := w) (base := base) D20 D5 G_lby_dues B
  have G_told_so := T39.ok_told_so (P := l.prog) (w := w) (base := base) D21 D18 G_in_time D19 G_is_set D20 G_end_in_time B
  have G_law := T39.ok_law (P := l.prog) (w := w) (base := base) D0 D1 G_source D2 G_pick D3 G_late_works D4 G_far D6 G_sets D21 G_told_so B
  exact G_law
end T39
open PySem PySem.W PyProof.Rows
set_option maxRecDepth 100000 in
set_option maxHeartbeats 0 in
theorem PySem.Challenge.cw_benchdays_k39_sets_of_a_weight_holds : PySem.Challenge.rw_benchdays_k39_sets_of_a_weight.Holds := by
  w_on; o_law; k_head; (case hw => w_witness2)
  k_fill
  refine L2.walkL T39.xS (l := PySem.Challenge.rw_benchdays_k39_sets_of_a_weight) (n := 63) (k := 8) (F := T39.F_law) rfl (by decide) rfl ⟨rfl, by decide, by decide, rfl⟩ (by intro x hx; simp only [T39.xS, List.mem_cons, List.not_mem_nil, or_false] at hx; subst hx; exact ⟨_, rfl⟩) T39.law_eq (λ w h Y => PySem.W.km_in_of Y) ?F
  case F =>
    intro w mg fa h c P KX G hmg hx
    refine' T39.all_mk KX G hmg hx ?a0 ?l0 ?c0 ?k0 ?a1 ?l1 ?c1 ?k1 ?a2 ?l2 ?c2 ?k2 ?a3 ?l3 ?c3 ?k3 ?a4 ?l4 ?c4 ?k4 ?a5 ?l5 ?c5 ?k5 ?a6 ?l6 ?c6 ?k6 ?a7 ?l7 ?c7 ?k7 ?a8 ?l8 ?c8 ?k8 ?a9 ?l9 ?c9 ?k9 ?a10 ?l10 ?c10 ?k10 ?a11 ?l11 ?c11 ?k11 ?a12 ?l12 ?c12 ?k12 ?a13 ?l13 ?c13 ?k13 ?a14 ?l14 ?c14 ?k14 ?a15 ?l15 ?c15 ?k15 ?a16 ?l16 ?c16 ?k16 ?a17 ?l17 ?c17 ?k17 ?a18 ?l18 ?c18 ?k18 ?a19 ?l19 ?c19 ?k19 ?a20 ?l20 ?c20 ?k20 ?a21 ?l21 ?c21 ?k21 ?z_list ?z_tuple ?z_len ?z_range ?z_repr ?z_sum ?z_min ?z_max ?z_abs ?z_all ?z_any ?z_sorted ?z_zip ?z_isinstance ?z_int ?z_bool ?z_str ?z_set ?z_enumerate ?z_reversed ?z_dict
    (case a0 => k_is)
    (case l0 => k_is)
    (case c0 => k_is)
    (case k0 => k_is)
    (case a1 => k_is)
    (case l1 => k_is)
    (case c1 => k_is)
    (case k1 => k_is)
    (case a2 => k_is)
    (case l2 => k_is)
    (case c2 => k_is)
    (case k2 => k_is)
    (case a3 => k_is)
    (case l3 => k_is)
    (case c3 => k_is)
    (case k3 => k_is)
    (case a4 => k_is)
    (case l4 => k_is)
    (case c4 => k_is)
    (case k4 => k_is)
    (case a5 => k_is)
    (case l5 => k_is)
    (case c5 => k_is)
    (case k5 => k_is)
    (case a6 => k_is)
    (case l6 => k_is)
    (case c6 => k_is)
    (case k6 => k_is)
    (case a7 => k_is)
    (case l7 => k_is)
    (case c7 => k_is)
    (case k7 => k_is)
    (case a8 => k_is)
    (case l8 => k_is)
    (case c8 => k_is)
    (case k8 => k_is)
    (case a9 => k_is)
    (case l9 => k_is)
    (case c9 => k_is)
    (case k9 => k_is)
    (case a10 => k_is)
    (case l10 => k_is)
    (case c10 => k_is)
    (case k10 => k_is)
    (case a11 => k_is)
    (case l11 => k_is)
    (case c11 => k_is)
    (case k11 => k_is)
    (case a12 => k_is)
    (case l12 => k_is)
    (case c12 => k_is)
    (case k12 => k_is)
    (case a13 => k_is)
    (case l13 => k_is)
    (case c13 => k_is)
    (case k13 => k_is)
    (case a14 => k_is)
    (case l14 => k_is)
    (case c14 => k_is)
    (case k14 => k_is)
    (case a15 => k_is)
    (case l15 => k_is)
    (case c15 => k_is)
    (case k15 => k_is)
    (case a16 => k_is)
    (case l16 => k_is)
    (case c16 => k_is)
    (case k16 => k_is)
    (case a17 => k_is)
    (case l17 => k_is)
    (case c17 => k_is)
    (case k17 => k_is)
    (case a18 => k_is)
    (case l18 => k_is)
    (case c18 => k_is)
    (case k18 => k_is)
    (case a19 => k_is)
    (case l19 => k_is)
    (case c19 => k_is)
    (case k19 => k_is)
    (case a20 => k_is)
    (case l20 => k_is)
    (case c20 => k_is)
    (case k20 => k_is)
    (case a21 => k_is)
    (case l21 => k_is)
    (case c21 => k_is)
    (case k21 => k_is)
    (case z_list => k_is)
    (case z_tuple => k_is)
    (case z_len => k_is)
    (case z_range => k_is)
    (case z_repr => k_is)
    (case z_sum => k_is)
    (case z_min => k_is)
    (case z_max => k_is)
    (case z_abs => k_is)
    (case z_all => k_is)
    (case z_any => k_is)
    (case z_sorted => k_is)
    (case z_zip => k_is)
    (case z_isinstance => k_is)
    (case z_int => k_is)
    (case z_bool => k_is)
    (case z_str => k_is)
    (case z_set => k_is)
    (case z_enumerate => k_is)
    (case z_reversed => k_is)
    (case z_dict => k_is)
