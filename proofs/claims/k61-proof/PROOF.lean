import PyProof.Rows.All
import Wide.All
import OpenK.AllK
import Wide.FinOn
import Lean
import PyProof.EqAt
import PyProof.EqKinds
import PyProof.TupleCall
import PySem.Challenge.RW_benchdays_k61_whole_ratio_is_best
set_option Elab.async false
set_option linter.all false
set_option maxRecDepth 100000
namespace L2
open PySem PySem.Spec PyProof.Rows
abbrev Key := Sum Int Str
def keyIs : Key -> Value -> Bool
  | .inl k, v => Value.isInt k v
  | .inr x, v => Value.isStrOf x v
def keyH (w : World) : Key -> Int
  | .inl k => hashInt k
  | .inr x => hashStr w x
theorem keyIs_shape : ∀ {k : Key} {v : Value}, keyIs k v = true -> (∃ i t, k = Sum.inl i /\ v = Value.int i t) ∨ (∃ x t, k = Sum.inr x /\ v = Value.str x t)
  | .inl i, v, h => by
    obtain ⟨t, e⟩ := Value.isInt_shape (k := i) (v := v) h
    exact .inl ⟨i, t, rfl, e⟩
  | .inr x, v, h => by
    obtain ⟨t, e⟩ := Value.isStrOf_shape (x := x) (v := v) h
    exact .inr ⟨x, t, rfl, e⟩
theorem key_ll (a b : Int) : decide ((Sum.inl a : Key) = Sum.inl b) = (a == b) := by
  by_cases e : a = b
  · subst e; simp
  · have h : ¬ (Sum.inl a : Key) = Sum.inl b := fun q => e (Sum.inl.inj q)
    rw [decide_eq_false h]
    exact (beq_eq_false_iff_ne.mpr e).symm
theorem key_rr (a b : Str) : decide ((Sum.inr a : Key) = Sum.inr b) = decide (a = b) := by
  by_cases e : a = b
  · subst e; simp
  · have h : ¬ (Sum.inr a : Key) = Sum.inr b := fun q => e (Sum.inr.inj q)
    rw [decide_eq_false h, decide_eq_false e]
theorem key_lr (a : Int) (b : Str) : decide ((Sum.inl a : Key) = Sum.inr b) = false := decide_eq_false (fun q => nomatch q)
theorem key_rl (a : Str) (b : Int) : decide ((Sum.inr a : Key) = Sum.inl b) = false := decide_eq_false (fun q => nomatch q)
def mixKind (prog : Program) (w : World) : PySem.KeyKind prog w Key where
  is := keyIs
  hash := keyH w
  inj := fun v a b ha hb => by
    rcases keyIs_shape ha with ⟨i, t, rfl, rfl⟩ | ⟨x, t, rfl, rfl⟩
    · rcases keyIs_shape hb with ⟨j, u, rfl, e⟩ | ⟨y, u, rfl, e⟩
      · injection e with e1 _; rw [e1]
      · exact nomatch e
    · rcases keyIs_shape hb with ⟨j, u, rfl, e⟩ | ⟨y, u, rfl, e⟩
      · exact nomatch e
      · injection e with e1 _; rw [e1]
  byValue := fun k v h => by
    rcases keyIs_shape h with ⟨i, t, rfl, rfl⟩ | ⟨x, t, rfl, rfl⟩ <;> rfl
  pyHash := fun hv h => by
    rcases keyIs_shape hv with ⟨i, t, rfl, rfl⟩ | ⟨x, t, rfl, rfl⟩
    · exact wpAny_pyHash_int h
    · exact wpAny_pyHash_str h
  eqBool := fun hu hv h => by
    rcases keyIs_shape hu with ⟨i, t, rfl, rfl⟩ | ⟨x, t, rfl, rfl⟩
    · rcases keyIs_shape hv with ⟨j, u, rfl, rfl⟩ | ⟨y, u, rfl, rfl⟩
      · rw [key_ll] at h; exact wpAny_eqBool_int h
      · rw [key_lr] at h; exact SeqAt.EqAt.int_str i t y u _ _ _ _ h
    · rcases keyIs_shape hv with ⟨j, u, rfl, rfl⟩ | ⟨y, u, rfl, rfl⟩
      · rw [key_rl] at h; exact SeqAt.EqAt.str_int x t j u _ _ _ _ h
      · rw [key_rr] at h; exact wpAny_eqBool_str h
  «strs» := fun k x t v h => by
    rcases keyIs_shape h with ⟨i, u, rfl, e⟩ | ⟨y, u, rfl, e⟩
    · exact nomatch e
    · injection e with e1 _
      subst e1
      cases v <;> rfl
end L2
namespace L2
open PySem PySem.Spec PyProof.Rows
inductive V where
  | non | bl (b : Bool) | int (i : Int) | str (x : Str) | byt (b : Array UInt8) | flt (b : UInt64) | ref (a : Addr) | ty (n : String)
  deriving DecidableEq
def RelV : V -> Value -> Prop
  | .non, u => u = Value.none
  | .bl b, u => u = Value.bool b
  | .int i, u => ∃ t, u = Value.int i t
  | .str x, u => ∃ t, u = Value.str x t
  | .byt b, u => ∃ t, u = Value.bytes b t
  | .flt b, u => ∃ t, u = Value.float b t
  | .ref a, u => u = Value.ref a
  | .ty n, u => u = Value.type n
abbrev Vals : List V -> List Value -> Prop := Paired RelV
theorem Vals.length {xs : List V} {us : List Value} (r : Vals xs us) : xs.length = us.length := Paired.length r
theorem Vals.get : ∀ {xs : List V} {us : List Value} {i : Nat} {x : V}, Vals xs us -> xs[i]? = some x -> ∃ u, us[i]? = some u /\ RelV x u
  | _, _, _, _, .nil, e => by simp at e
  | _, _, 0, _, .cons r _, e => by simp at e; subst e; exact ⟨_, rfl, r⟩
  | _, _, i + 1, x, .cons _ t, e => by
    obtain ⟨u, h1, h2⟩ := Vals.get (i := i) (x := x) t (by simpa using e)
    exact ⟨u, by simpa using h1, h2⟩
theorem Vals.set {x : V} {u : Value} (r : RelV x u) : ∀ {xs : List V} {us : List Value} (i : Nat), Vals xs us -> Vals (xs.set i x) (us.set i u)
  | _, _, _, .nil => .nil
  | _, _, 0, .cons _ t => .cons r t
  | _, _, i + 1, .cons q t => .cons q (Vals.set r i t)
theorem Vals.append : ∀ {xs ys : List V} {us ws : List Value}, Vals xs us -> Vals ys ws -> Vals (xs ++ ys) (us ++ ws)
  | _, _, _, _, .nil, s => s
  | _, _, _, _, .cons r t, s => .cons r (Vals.append t s)
theorem Vals.take : ∀ {xs : List V} {us : List Value} (n : Nat), Vals xs us -> Vals (xs.take n) (us.take n)
  | _, _, 0, _ => .nil
  | _, _, _ + 1, .nil => .nil
  | _, _, n + 1, .cons r t => .cons r (Vals.take n t)
theorem Vals.drop : ∀ {xs : List V} {us : List Value} (n : Nat), Vals xs us -> Vals (xs.drop n) (us.drop n)
  | _, _, 0, r => r
  | _, _, _ + 1, .nil => .nil
  | _, _, n + 1, .cons _ t => Vals.drop n t
def RelO : Option V -> Option Value -> Prop
  | some v, some u => RelV v u
  | none, none => True
  | _, _ => False
def KV {κ : Type} : List (κ × V) -> List (κ × Value) -> Prop := Paired fun (p : κ × V) (q : κ × Value) => p.1 = q.1 /\ RelV p.2 q.2
def kV : Key -> V
  | .inl i => .int i
  | .inr x => .str x
inductive HO where
  /-- a list -/
  | lst (xs : List V)
  /-- a tuple (never changes) -/
  | tup (xs : List V)
  /-- a dict whose keys are ints and texts; one whose keys are tuples of ints and texts (the empty one is both) -/
  | dK (kvs : List (Key × V)) | dT (kvs : List (List Key × V))
  /-- a set of ints: its members, its size -/
  | set (S : Int -> Bool) (n : Nat)
  /-- an instance of the class at C, its dict at dx, its attributes -/
  | ins (C dx : Addr) (fs : List (Str × V))
  /-- the dict of the instance at x -/
  | own (x : Addr)
  /-- the dict of an exception -/
  | xd (fs : List (Str × V))
  /-- a bound method, f of x -/
  | met (f x : Addr)
  /-- a range object lo, lo + 1, .. below hi -/
  | rng (lo hi : Int)
  /-- a thing that is known to the object (the script; a dict while a loop walks it): read, never written while it is so -/
  | frz (o : Obj) (u : HO)
  /-- a code object's table -/
  | tbl (ps : Array Value)
  /-- any other thing, by what is true of its one object (a def of one's own: SetO a S n := HO.ext fun h => ..) -/
  | ext (φ : Heap -> Prop)
abbrev Hp := Addr -> Option HO
def upd (H : Hp) (a : Addr) (o : HO) : Hp := fun b => if b = a then some o else H b
theorem upd_same {H : Hp} {a : Addr} {o : HO} : upd H a o a = some o := by unfold upd; rw [if_pos rfl]
theorem upd_ne {H : Hp} {a b : Addr} {o : HO} (h : b ≠ a) : upd H a o b = H b := by unfold upd; rw [if_neg h]
theorem ne_of_none {H : Hp} {a b : Addr} {o : HO} (h : H a = some o) (h' : H b = none) : a ≠ b := by
  intro e; subst e; rw [h] at h'; cases h'
section
variable (P : Program) (w : World)
def ObjOk (H : Hp) (h : Heap) (a : Addr) : HO -> Prop
  | .lst xs => xs.length <= sizeLine /\ ∃ (its : List Value) (n : Nat), Vals xs its /\ h.get? a = some { cls := .type "list", data := .seq its.toArray n }
  | .tup xs => xs.length <= sizeLine /\ ∃ its : List Value, Vals xs its /\ IsTup h a its.toArray
  | .dK kvs => kvs.length <= sizeLine /\ (a == sysModules) = false /\ ∃ vs, KV kvs vs /\ h.DictOf (mixKind P w) a vs
  | .dT kvs => kvs.length <= sizeLine /\ (a == sysModules) = false /\ ∃ xs : List (List Key × Addr × Value),
      Paired (fun (p : List Key × V) (q : List Key × Addr × Value) => p.1 = q.1 /\ H q.2.1 = some (.tup (p.1.map kV)) /\ RelV p.2 q.2.2) kvs xs /\
      ∃ o es ep, h.get? a = some o /\ o.ExactDict /\ o.data = .dict es ep /\ es.toList = xs.map (entryOfKey (tupleKind (mixKind P w))) /\ (xs.map (·.1)).Nodup
  | .set S n => h.SetOf (intKind P w) a S n
  | .ins C dx fs => H dx = some (.own a) /\ fs.length <= 1000 /\ dx ≠ a /\ h.get? a = some (PySem.W.instObj C dx) /\
      ∃ mA, h.Ns1 dx mA /\ (∀ f, RelO (fs.lookup f) (mA f)) /\ PySem.Within mA (fs.map (·.1))
  | .own _ => ∃ o, h.get? a = some o
  | .xd fs => ∃ mA, h.Ns1 a mA /\ ∀ f, RelO (fs.lookup f) (mA f)
  | .rng lo hi => ∃ t u v, h.get? a = some { cls := .type "range", data := .fields #[.int lo t, .int hi u, .int 1 v] }
  | .frz o u => h.get? a = some o /\ ObjOk H h a u
  | .tbl ps => h.get? a = some { cls := .none, data := .fields ps }
  | .met f x => h.get? a = some (PySem.W.methodObj (.ref f) (.ref x))
  | .ext φ => φ h /\ (∃ o, h.get? a = some o) /\ ∀ h1 h2 : Heap, φ h1 -> (∀ o, h1.get? a = some o -> h2.get? a = some o) -> φ h2
def HOk (H : Hp) (h : Heap) : Prop := ∀ a o, H a = some o -> ObjOk P w H h a o
end
section
variable {P : Program} {w : World} {H H' : Hp} {h h' : Heap} {a : Addr} {o : HO}
theorem ObjOk.lt (x : ObjOk P w H h a o) : a < h.objs.size := by
  cases o with
  | lst xs => obtain ⟨_, _, _, _, e⟩ := x; exact Heap.lt_size e
  | tup xs => obtain ⟨_, _, _, p⟩ := x; exact p.lt
  | dK kvs => obtain ⟨_, _, _, _, o, _, _, e, _⟩ := x; exact Heap.lt_size e
  | dT kvs => obtain ⟨_, _, _, _, o, _, _, e, _⟩ := x; exact Heap.lt_size e
  | set S n => obtain ⟨o, _, _, _, e, _⟩ := x; exact Heap.lt_size e
  | ins C dx fs => obtain ⟨_, _, _, e, _⟩ := x; exact Heap.lt_size e
  | own y => obtain ⟨_, e⟩ := x; exact Heap.lt_size e
  | xd fs => obtain ⟨_, ⟨_, _, _, e, _⟩, _⟩ := x; exact Heap.lt_size e
  | rng lo hi => obtain ⟨_, _, _, e⟩ := x; exact Heap.lt_size e
  | frz ob u => obtain ⟨e, _⟩ := x; exact Heap.lt_size e
  | tbl ps => exact Heap.lt_size (show h.get? a = some _ from x)
  | met f y => exact Heap.lt_size (show h.get? a = some _ from x)
  | ext φ => obtain ⟨_, ⟨_, e⟩, _⟩ := x; exact Heap.lt_size e
theorem Paired.mapP {α β : Type} {F G : α -> β -> Prop} : ∀ {l₁ : List α} {l₂ : List β}, Paired F l₁ l₂ -> (∀ a b, F a b -> G a b) -> Paired G l₁ l₂
  | _, _, .nil, _ => .nil
  | _, _, .cons r t, f => .cons (f _ _ r) (Paired.mapP t f)
theorem ObjOk.stay (x : ObjOk P w H h a o) (k : ∀ b u, (b = a ∨ H b = some (.own a)) -> h.get? b = some u -> h'.get? b = some u)
    (ho : ∀ b, H b = some (.own a) -> H' b = some (.own a)) (ht : ∀ b xs, H b = some (.tup xs) -> H' b = some (.tup xs)) : ObjOk P w H' h' a o := by
  induction o with
  | lst xs => obtain ⟨z, its, n, r, e⟩ := x; exact ⟨z, its, n, r, k _ _ (.inl rfl) e⟩
  | tup xs => obtain ⟨z, its, r, ob, e, c⟩ := x; exact ⟨z, its, r, ob, k _ _ (.inl rfl) e, c⟩
  | dK kvs => obtain ⟨z, y, vs, r, ob, es, ep, e, c⟩ := x; exact ⟨z, y, vs, r, ob, es, ep, k _ _ (.inl rfl) e, c⟩
  | dT kvs =>
    obtain ⟨z, y, xs, r, ob, es, ep, e, c⟩ := x
    exact ⟨z, y, xs, Paired.mapP r fun p q z => ⟨z.1, ht _ _ z.2.1, z.2.2⟩, ob, es, ep, k _ _ (.inl rfl) e, c⟩
  | set S n => obtain ⟨ob, es, ep, t, e, c⟩ := x; exact ⟨ob, es, ep, t, k _ _ (.inl rfl) e, c⟩
  | ins C dx fs =>
    obtain ⟨d, z, ne, e, mA, ⟨od, es, ep, e2, c⟩, r⟩ := x
    exact ⟨ho _ d, z, ne, k _ _ (.inl rfl) e, mA, ⟨od, es, ep, k _ _ (.inr d) e2, c⟩, r⟩
  | own y => obtain ⟨ob, e⟩ := x; exact ⟨ob, k _ _ (.inl rfl) e⟩
  | xd fs => obtain ⟨mA, ⟨od, es, ep, e, c⟩, r⟩ := x; exact ⟨mA, ⟨od, es, ep, k _ _ (.inl rfl) e, c⟩, r⟩
  | rng lo hi => obtain ⟨t, u, v, e⟩ := x; exact ⟨t, u, v, k _ _ (.inl rfl) e⟩
  | frz ob u ih => obtain ⟨e, q⟩ := x; exact ⟨k _ _ (.inl rfl) e, ih q⟩
  | tbl ps =>
    have e : h.get? a = some { cls := .none, data := .fields ps } := x
    show h'.get? a = some { cls := .none, data := .fields ps }
    exact k a _ (.inl rfl) e
  | met f y =>
    have e : h.get? a = some (PySem.W.methodObj (.ref f) (.ref y)) := x
    show h'.get? a = some (PySem.W.methodObj (.ref f) (.ref y))
    exact k a _ (.inl rfl) e
  | ext φ => obtain ⟨p, ⟨o, e⟩, st⟩ := x; exact ⟨st _ _ p fun o q => k _ _ (.inl rfl) q, ⟨o, k _ _ (.inl rfl) e⟩, st⟩
theorem HOk.lt (x : HOk P w H h) (e : H a = some o) : a < h.objs.size := (x a o e).lt
theorem HOk.fresh (x : HOk P w H h) (e : h.objs.size <= a) : H a = none := by
  cases q : H a with
  | none => rfl
  | some u => exact absurd (Nat.lt_of_lt_of_le (x.lt q) e) (Nat.lt_irrefl _)
theorem HOk.kept (x : HOk P w H h) (k : ∀ b u, h.get? b = some u -> h'.get? b = some u) : HOk P w H h' := fun a o e =>
  (x a o e).stay (fun b u _ q => k b u q) (fun _ q => q) fun _ _ q => q
theorem HOk.laid (x : HOk P w H h) (k : ∀ b u, h.get? b = some u -> h'.get? b = some u) (hp : h.objs.size <= a) (new : ObjOk P w (upd H a o) h' a o) : HOk P w (upd H a o) h' := fun b u e => by
  have hn := x.fresh hp
  by_cases hb : b = a
  · subst hb; rw [upd_same] at e; cases e; exact new
  · rw [upd_ne hb] at e
    exact (x b u e).stay (fun c v _ q => k c v q) (fun c q => by rw [upd_ne (ne_of_none q hn)]; exact q) fun c xs q => by rw [upd_ne (ne_of_none q hn)]; exact q
end
def Rd (H : Hp) (a : Addr) (u : HO) : Prop := H a = some u ∨ ∃ o, H a = some (.frz o u)
theorem Rd.ok {P : Program} {w : World} {H : Hp} {h : Heap} {a : Addr} {u : HO} (r : Rd H a u) (x : HOk P w H h) : ObjOk P w H h a u := by
  rcases r with r | ⟨o, r⟩
  · exact x a u r
  · obtain ⟨_, q⟩ := x a _ r
    exact q
def Mut : Option HO -> Prop
  | some (.lst _) => True
  | some (.dK _) => True
  | some (.dT _) => True
  | some (.set _ _) => True
  | some (.ins _ _ _) => True
  | some (.ext _) => True
  | _ => False
section
variable {P : Program} {w : World} {H : Hp} {h h' : Heap} {x e : Addr} {o' : HO}
theorem HOk.write (ok : HOk P w H h) (mu : Mut (H x)) (he : e = x ∨ H e = some (.own x)) (k : ∀ b u, b ≠ e -> h.get? b = some u -> h'.get? b = some u) (heo : ∃ u, h'.get? e = some u)
    (new : ObjOk P w (upd H x o') h' x o') : HOk P w (upd H x o') h' := fun b u q => by
  have nown : ∀ c y, H c = some (.own y) -> c ≠ x := fun c y r z => by subst z; rw [r] at mu; exact mu
  have ntup : ∀ c xs, H c = some (.tup xs) -> c ≠ x := fun c xs r z => by subst z; rw [r] at mu; exact mu
  by_cases hb : b = x
  · subst hb; rw [upd_same] at q; cases q; exact new
  · rw [upd_ne hb] at q
    by_cases hbe : b = e
    · have q' : H b = some (.own x) := by
        rcases he with z | z
        · exact absurd (hbe.trans z) hb
        · rw [hbe]; exact z
      rw [q] at q'; cases q'
      obtain ⟨v, hv⟩ := heo
      exact ⟨v, by rw [hbe]; exact hv⟩
    · refine (ok b u q).stay (fun c v hc r => k c v ?_ r) (fun c r => by rw [upd_ne (nown c b r)]; exact r) fun c xs r => by rw [upd_ne (ntup c xs r)]; exact r
      rcases hc with rfl | hc
      · exact hbe
      · rintro rfl
        rcases he with z | z
        · exact nown c b hc z
        · rw [hc] at z; cases z; exact hb rfl
end
structure Un (fs ex : List Addr) (H H' : Hp) (h h' : Heap) : Prop where
  keep : ∀ b o, h.get? b = some o -> H b = none -> b ∉ fs -> b ∉ ex -> h'.get? b = some o
  slot : ∀ b o, h.get? b = some o -> H b = none -> b ∈ fs -> b ∉ ex -> ∃ sl, h'.get? b = some { o with slots := sl }
  free : ∀ b o, h.get? b = some o -> H b = none -> b ∉ ex -> H' b = none
  there : ∀ b o, h.get? b = some o -> b ∉ ex -> ∃ o', h'.get? b = some o'
  tups : ∀ b xs, H b = some (.tup xs) -> H' b = some (.tup xs)
  frzs : ∀ b o u, H b = some (.frz o u) -> H' b = some (.frz o u)
  tbls : ∀ b ps, H b = some (.tbl ps) -> ∃ more, H' b = some (.tbl (ps ++ more))
section
variable {fs fs' ex ex' : List Addr} {H H1 H2 : Hp} {h h1 h2 h' : Heap} {a x e : Addr} {o : HO}
theorem Un.any (u : Un fs ex H H1 h h1) {b : Addr} {ob : Obj} (q : h.get? b = some ob) (n : H b = none) (hx : b ∉ ex) : ∃ sl, h1.get? b = some { ob with slots := sl } := by
  by_cases hb : b ∈ fs
  · exact u.slot b ob q n hb hx
  · exact ⟨ob.slots, u.keep b ob q n hb hx⟩
theorem Un.trans (a : Un fs ex H H1 h h1) (b : Un fs ex H1 H2 h1 h2) : Un fs ex H H2 h h2 where
  keep := fun c ob q n hc hx => b.keep c ob (a.keep c ob q n hc hx) (a.free c ob q n hx) hc hx
  slot := fun c ob q n hc hx => by
    obtain ⟨sl, e1⟩ := a.slot c ob q n hc hx
    obtain ⟨sl', e2⟩ := b.slot c _ e1 (a.free c ob q n hx) hc hx
    exact ⟨sl', e2⟩
  free := fun c ob q n hx => by
    obtain ⟨o', e1⟩ := a.there c ob q hx
    exact b.free c o' e1 (a.free c ob q n hx) hx
  there := fun c ob q hx => by
    obtain ⟨o', e1⟩ := a.there c ob q hx
    exact b.there c o' e1 hx
  tups := fun c xs q => b.tups c xs (a.tups c xs q)
  frzs := fun c ob xs q => b.frzs c ob xs (a.frzs c ob xs q)
  tbls := fun c ps q => by
    obtain ⟨m1, e1⟩ := a.tbls c ps q
    obtain ⟨m2, e2⟩ := b.tbls c _ e1
    exact ⟨m1 ++ m2, by rw [e2, Array.append_assoc]⟩
theorem Un.kept (k : ∀ b u, h.get? b = some u -> h'.get? b = some u) : Un fs ex H H h h' :=
  ⟨fun b ob q _ _ _ => k b ob q, fun b ob q _ _ _ => ⟨ob.slots, k b ob q⟩, fun _ _ _ n _ => n, fun b ob q _ => ⟨ob, k b ob q⟩, fun _ _ q => q, fun _ _ _ q => q, fun _ ps q => ⟨#[], by rw [q]; simp⟩⟩
theorem Un.refl : Un fs ex H H h h := Un.kept fun _ _ q => q
theorem Un.laid (k : ∀ b u, h.get? b = some u -> h'.get? b = some u) (hp : h.objs.size <= a) (hn : H a = none) : Un fs ex H (upd H a o) h h' where
  keep := fun b u q _ _ _ => k b u q
  slot := fun b u q _ _ _ => ⟨u.slots, k b u q⟩
  free := fun b u q n _ => by rw [upd_ne (Nat.ne_of_lt (Nat.lt_of_lt_of_le (Heap.lt_size q) hp))]; exact n
  there := fun b u q _ => ⟨u, k b u q⟩
  tups := fun b xs q => by rw [upd_ne (ne_of_none q hn)]; exact q
  frzs := fun b u xs q => by rw [upd_ne (ne_of_none q hn)]; exact q
  tbls := fun b ps q => ⟨#[], by rw [upd_ne (ne_of_none q hn), q]; simp⟩
theorem Un.write (mu : Mut (H x)) (he : e = x ∨ H e = some (.own x)) (k : ∀ b u, b ≠ e -> h.get? b = some u -> h'.get? b = some u) (heo : ∃ u, h'.get? e = some u) : Un fs ex H (upd H x o) h h' := by
  have hx : ∀ b, H b = none -> b ≠ x := fun b n z => by subst z; rw [n] at mu; exact mu
  have hb : ∀ b, H b = none -> b ≠ e := fun b n z => by
    subst z
    rcases he with r | r
    · exact hx b n r
    · rw [n] at r; cases r
  have hm : ∀ b u, H b = some u -> ¬ Mut (some u) -> b ≠ x := fun b u q nm z => by subst z; rw [q] at mu; exact nm mu
  refine ⟨fun b u q n _ _ => k b u (hb b n) q, fun b u q n _ _ => ⟨u.slots, k b u (hb b n) q⟩, fun b u q n _ => by rw [upd_ne (hx b n)]; exact n, fun b u q _ => ?_,
    fun b xs q => by rw [upd_ne (hm b _ q fun z => z)]; exact q, fun b u xs q => by rw [upd_ne (hm b _ q fun z => z)]; exact q, fun b ps q => ⟨#[], by rw [upd_ne (hm b _ q fun z => z), q]; simp⟩⟩
  by_cases hbe : b = e
  · subst hbe; exact heo
  · exact ⟨u, k b u hbe q⟩
theorem Un.mono (u : Un fs ex H H1 h h1) (hs : ∀ b ∈ fs, b ∈ fs') (hx : ∀ b ∈ ex, b ∈ ex') : Un fs' ex' H H1 h h1 :=
  ⟨fun b ob q n hb he => u.keep b ob q n (fun z => hb (hs b z)) fun z => he (hx b z), fun _ _ q n _ he => u.any q n fun z => he (hx _ z), fun b ob q n he => u.free b ob q n fun z => he (hx b z), fun b ob q he => u.there b ob q fun z => he (hx b z), u.tups, u.frzs, u.tbls⟩
end
def trk (h : Heap) (H : Hp) : List Addr := (List.range h.objs.size).filter fun a => (H a).isSome
def hidT (h : Heap) (H : Hp) : Heap := PySem.W.hideAll h (trk h H)
theorem hidT_size (h : Heap) (H : Hp) : (hidT h H).objs.size = h.objs.size := PySem.W.hideAll_size _ _
theorem hidT_get {h : Heap} {H : Hp} {b : Addr} {o : Obj} (e : h.get? b = some o) (n : H b = none) : (hidT h H).get? b = some o :=
  PySem.W.hideAll_get _ e fun hm => by
    have q : (H b).isSome = true := (List.mem_filter.mp hm).2
    rw [n] at q; simp at q
theorem of_hidT {h : Heap} {H : Hp} {b : Addr} {o : Obj} (e : (hidT h H).get? b = some o) : h.get? b = some o /\ H b = none := by
  have e' : h.get? b = some o := PySem.W.of_hideAll (trk h H) e
  refine ⟨e', ?_⟩
  cases q : H b with
  | none => rfl
  | some x =>
    have hm : b ∈ trk h H := List.mem_filter.mpr ⟨List.mem_range.mpr (Heap.lt_size e'), by simp [q]⟩
    have z : (hidT h H).get? b = none := PySem.W.hideAll_none (trk h H) hm
    rw [z] at e; cases e
def allNews (g h : Heap) (L : Addr) : List (Addr × Obj) := (List.range h.objs.size).filterMap fun a => if a = L ∨ (g.get? a).isSome = true then none else (h.get? a).map fun o => (a, o)
def rest (g h : Heap) (L d : Addr) : List (Addr × Obj) := (allNews g h L).filter fun p => decide (p.1 ≠ d)
end L2
namespace L2
open PySem PySem.Spec PyProof.Rows
structure Mod (K : PySem.W.Frag) (mg : Str -> Option Value) (base : Heap) : Prop where
  kin : K.In base
  glob : base.Ns mainGlobals mg
  blt : ∃ mb, base.Ns builtinsNs mb /\ ∀ x : Str, x ≠ "__name__" -> mb x = bootBuiltins x
  nolimit : base.NoLimit
structure Cx where
  prog : Program
  w : World
  K : PySem.W.Frag
  mg : Str -> Option Value
  base : Heap
  A : Around
  N : List Str
  s₀ : Shared
  H₀ : Hp
  env : Env
  outer : List Env
  stack : List Env
  ex : List Addr
  fn : Str -> Bool
  calm : Bool
  pn : List (Addr × Obj)
  xe : Value -> Shared -> Prop
def frs (l : List Env) : List Addr := l.filterMap (·.frame)
abbrev Cx.fs (X : Cx) : List Addr := frs X.outer
def Vis (sc : Scope) (x : Str) : Prop := sc.names.lookup x = some .local ∨ sc.names.lookup x = some .cell ∨ sc.names.lookup x = some .free
def Loc (sc : Scope) (x : Str) : Prop := sc.names.lookup x = some .local ∨ sc.names.lookup x = some .cell
def Look (env : Env) (h : Heap) (m : Str -> Option Value) (x : Str) (u : Value) : Prop :=
  (env.kindOf x = some .local /\ m x = some u) ∨ ((env.kindOf x = some .cell ∨ env.kindOf x = some .free) /\ ∃ c, env.cells.lookup x = some c /\ h.IsCell c (some u))
structure Cx.Ok (X : Cx) : Prop where
  mod : Mod X.K X.mg X.base
  kind : X.env.scope.kind = .function
  glob : X.env.globals = mainGlobals
  blt : X.env.builtins = builtinsNs
  above : X.s₀.heap.objs.size <= X.env.locals
  inj : ∀ x y c, X.env.cells.lookup x = some c -> X.env.cells.lookup y = some c -> x = y
  has : ∀ x, (X.env.kindOf x = some .cell ∨ X.env.kindOf x = some .free) -> ∃ c, X.env.cells.lookup x = some c
  cab : ∀ x c, X.fn x = true -> X.env.cells.lookup x = some c -> X.s₀.heap.objs.size <= c
  hd : X.calm = true -> X.A.handled = none
  frames : X.A.frames = some X.stack
  stk : X.stack = X.outer ∨ (X.stack = X.env :: X.outer /\ X.env.frame = some X.env.locals)
  exf : ∀ b ∈ X.ex, b ≠ X.env.locals /\ ∀ x c, X.env.cells.lookup x = some c -> c ≠ b
  bs : ∀ b o, X.base.get? b = some o -> X.s₀.heap.get? b = some o /\ X.H₀ b = none
  bsz : X.base.objs.size <= X.s₀.heap.objs.size
  noex : ∀ b o, X.base.get? b = some o -> b ∉ X.ex
  exfs : ∀ b ∈ X.ex, b ∉ X.fs
  funs : X.s₀.heap.FunFrames X.base X.outer
  frf : ∀ b ∈ X.fs, X.H₀ b = none
structure Inv (X : Cx) (pins : List (Addr × Obj)) (σ : List (Option V)) (H : Hp) (s : Shared) : Prop where
  ok : X.Ok
  os : s.os = X.s₀.os
  bare : AllBare s.gens
  base : Un X.fs X.ex X.H₀ H X.s₀.heap s.heap
  loc : ∃ m, s.heap.Ns X.env.locals m /\ ∀ (i : Nat) (x : Str) (v : V), X.N[i]? = some x -> σ[i]? = some (some v) -> Vis X.env.scope x -> ∃ u, RelV v u /\ Look X.env s.heap m x u
  cell : ∀ x c, X.env.cells.lookup x = some c -> ∃ v, s.heap.IsCell c v
  free : H X.env.locals = none
  freeC : ∀ x c, X.env.cells.lookup x = some c -> H c = none
  pin : ∀ p ∈ X.pn ++ pins, s.heap.get? p.1 = some p.2 /\ H p.1 = none /\ p.1 ≠ X.env.locals /\ p.1 ∉ X.fs /\ ∀ v, p.2.data ≠ .cell v
  hok : HOk X.prog X.w H s.heap
  len : σ.length = X.N.length
section
variable {X : Cx} {pins : List (Addr × Obj)} {σ : List (Option V)} {H H' : Hp} {s : Shared} {h' : Heap}
theorem Cx.Ok.nofr (ok : X.Ok) {b : Addr} {o : Obj} (e : X.base.get? b = some o) : b ∉ X.fs := fun hb => by
  have := (ok.funs.mem hb).1
  rw [e] at this; cases this
theorem Inv.bs (I : Inv X pins σ H s) : ∀ b o, X.base.get? b = some o -> s.heap.get? b = some o /\ H b = none := fun b o e =>
  ⟨I.base.keep b o (I.ok.bs b o e).1 (I.ok.bs b o e).2 (I.ok.nofr e) (I.ok.noex b o e), I.base.free b o (I.ok.bs b o e).1 (I.ok.bs b o e).2 (I.ok.noex b o e)⟩
theorem Inv.bk (I : Inv X pins σ H s) : ∀ b o, X.base.get? b = some o -> s.heap.get? b = some o := fun b o e => (I.bs b o e).1
theorem Inv.mod (I : Inv X pins σ H s) : Mod X.K X.mg X.base := I.ok.mod
theorem Inv.kIn (I : Inv X pins σ H s) : X.K.In s.heap := I.ok.mod.kin.keeps I.bk
theorem Inv.nolimit (I : Inv X pins σ H s) : s.heap.NoLimit := I.ok.mod.nolimit.keeps I.bk
theorem Inv.fr (I : Inv X pins σ H s) : ∃ m, Fr X.base X.env.locals s.heap m :=
  let ⟨m, hn, _⟩ := I.loc
  ⟨m, hn, I.bk, Nat.le_trans I.ok.bsz I.ok.above⟩
theorem Inv.lt (I : Inv X pins σ H s) : X.env.locals < s.heap.objs.size := let ⟨_, hn, _⟩ := I.loc; hn.lt
theorem Inv.sz (I : Inv X pins σ H s) : X.s₀.heap.objs.size <= s.heap.objs.size := Nat.le_trans I.ok.above (Nat.le_of_lt I.lt)
theorem Inv.nofs (I : Inv X pins σ H s) {a : Addr} (h : s.heap.objs.size <= a) : a ∉ X.fs := fun hb => by
  obtain ⟨_, o, ho, _⟩ := I.ok.funs.mem hb
  exact absurd (Nat.lt_of_lt_of_le (Heap.lt_size ho) (Nat.le_trans I.sz h)) (Nat.lt_irrefl _)
theorem Inv.cne (I : Inv X pins σ H s) : ∀ x c, X.env.cells.lookup x = some c -> c ≠ X.env.locals := fun x c e z => by
  obtain ⟨v, o, ho, hd⟩ := I.cell x c e
  obtain ⟨m, ⟨o', es, ep, ho', hd', _⟩, _⟩ := I.loc
  rw [z, ho'] at ho; cases ho; rw [hd'] at hd; cases hd
theorem Inv.funs (I : Inv X pins σ H s) : s.heap.FunFrames X.base X.outer := by
  have all : ∀ (l : List Env), (∀ b ∈ frs l, b ∈ X.fs) -> X.s₀.heap.FunFrames X.base l -> s.heap.FunFrames X.base l := by
    intro l
    induction l with
    | nil => intro _ _; trivial
    | cons env r ih =>
      intro hs hl
      obtain ⟨hk, ⟨L, o, hf, hn, ho, hd⟩, hr⟩ := hl
      have hL : L ∈ X.fs := hs L (by unfold frs; rw [List.filterMap_cons, hf]; exact List.mem_cons_self)
      obtain ⟨sl, e⟩ := I.base.slot L o ho (I.ok.frf L hL) hL fun z => I.ok.exfs L z hL
      exact ⟨hk, ⟨L, _, hf, hn, e, hd⟩, ih (fun b hb => hs b (by unfold frs; rw [List.filterMap_cons, hf]; exact List.mem_cons_of_mem _ hb)) hr⟩
  exact all X.outer (fun _ hb => hb) I.ok.funs
theorem Inv.stack (I : Inv X pins σ H s) : s.heap.FunFrames X.base X.stack := by
  rcases I.ok.stk with e | ⟨e, hf⟩
  · rw [e]; exact I.funs
  · rw [e]
    obtain ⟨m, hn, _⟩ := I.loc
    refine .cons (by rw [I.ok.kind]; decide) hf hn ?_ I.funs
    exact Heap.get?_none_of_le (Nat.le_trans I.ok.bsz I.ok.above)
theorem Inv.stkSub (I : Inv X pins σ H s) : ∀ b ∈ frs X.stack, b ∈ X.env.locals :: X.fs := fun b hb => by
  rcases I.ok.stk with e | ⟨e, hf⟩
  · rw [e] at hb; exact List.mem_cons_of_mem _ hb
  · rw [e] at hb
    unfold frs at hb
    rw [List.filterMap_cons, hf] at hb
    exact hb
theorem Inv.stkFree (I : Inv X pins σ H s) : ∀ b ∈ frs X.stack, H b = none := fun b hb => by
  rcases List.mem_cons.mp (I.stkSub b hb) with e | hb
  · rw [e]; exact I.free
  · obtain ⟨_, o, ho, _⟩ := I.ok.funs.mem hb
    exact I.base.free b o ho (I.ok.frf b hb) fun z => I.ok.exfs b z hb
theorem Inv.step {g' : Array GenState} {t' : Nat} {d' : Drawn} {ch : List Addr} (I : Inv X pins σ H s)
    (hch : ∀ b ∈ ch, (b ∈ X.ex ∨ X.s₀.heap.objs.size <= b) /\ b ≠ X.env.locals /\ (∀ x c, X.env.cells.lookup x = some c -> c ≠ b) /\ ∀ p ∈ X.pn ++ pins, p.1 ≠ b)
    (keep : ∀ b o, b ≠ X.env.locals -> b ∉ X.fs -> b ∉ ch -> s.heap.get? b = some o -> H b = none -> h'.get? b = some o)
    (slot : ∀ b o, b ≠ X.env.locals -> b ∈ X.fs -> b ∉ ch -> s.heap.get? b = some o -> H b = none -> ∃ sl, h'.get? b = some { o with slots := sl }) (free : ∀ b o, b ∉ ch -> s.heap.get? b = some o -> H b = none -> H' b = none)
    (there : ∀ b o, b ∉ ch -> s.heap.get? b = some o -> ∃ o', h'.get? b = some o')
    (tups : ∀ b xs, H b = some (.tup xs) -> H' b = some (.tup xs)) (frzs : ∀ b o u, H b = some (.frz o u) -> H' b = some (.frz o u)) (tbls : ∀ b ps, H b = some (.tbl ps) -> ∃ more, H' b = some (.tbl (ps ++ more)))
    (ns : ∀ m, s.heap.Ns X.env.locals m -> h'.Ns X.env.locals m) (hok : HOk X.prog X.w H' h') (hg : AllBare g') :
    Inv X pins σ H' { s with heap := h', gens := g', drawn := d', toks := t' } := by
  have neL : ∀ b o, X.s₀.heap.get? b = some o -> b ≠ X.env.locals := fun b o e => Nat.ne_of_lt (Nat.lt_of_lt_of_le (Heap.lt_size e) I.ok.above)
  have neC : ∀ b o, X.s₀.heap.get? b = some o -> b ∉ X.ex -> b ∉ ch := fun b o e hx hb => by
    rcases (hch b hb).1 with z | z
    · exact hx z
    · exact absurd (Nat.lt_of_lt_of_le (Heap.lt_size e) z) (Nat.lt_irrefl _)
  have cellK : ∀ x c, X.env.cells.lookup x = some c -> ∀ v, s.heap.IsCell c v -> h'.IsCell c v := fun x c e v ⟨o, ho, hd⟩ => by
    have nch : c ∉ ch := fun z => (hch c z).2.2.1 x c e rfl
    by_cases hc : c ∈ X.fs
    · obtain ⟨sl, q⟩ := slot c o (I.cne x c e) hc nch ho (I.freeC x c e)
      exact ⟨_, q, hd⟩
    · exact ⟨o, keep c o (I.cne x c e) hc nch ho (I.freeC x c e), hd⟩
  refine ⟨I.ok, I.os, hg, ⟨fun b o e n hb hx => ?_, fun b o e n hb hx => ?_, fun b o e n hx => ?_, fun b o e hx => ?_, fun b xs e => tups b xs (I.base.tups b xs e), fun b o xs e => frzs b o xs (I.base.frzs b o xs e), fun b ps e => ?_⟩, ?_, fun x c e => ?_, ?_, fun x c e => ?_, fun p hp => ?_, hok, I.len⟩
  · exact keep b o (neL b o e) hb (neC b o e hx) (I.base.keep b o e n hb hx) (I.base.free b o e n hx)
  · obtain ⟨sl, e1⟩ := I.base.slot b o e n hb hx
    obtain ⟨sl', e2⟩ := slot b _ (neL b o e) hb (neC b o e hx) e1 (I.base.free b o e n hx)
    exact ⟨sl', e2⟩
  · obtain ⟨o', e1⟩ := I.base.there b o e hx
    exact free b o' (neC b o e hx) e1 (I.base.free b o e n hx)
  · obtain ⟨o', e1⟩ := I.base.there b o e hx
    exact there b o' (neC b o e hx) e1
  · obtain ⟨m1, e1⟩ := I.base.tbls b ps e
    obtain ⟨m2, e2⟩ := tbls b _ e1
    exact ⟨m1 ++ m2, by rw [e2, Array.append_assoc]⟩
  · obtain ⟨m, hn, hl⟩ := I.loc
    refine ⟨m, ns m hn, fun i x v e1 e2 e3 => ?_⟩
    obtain ⟨u, r, l⟩ := hl i x v e1 e2 e3
    refine ⟨u, r, ?_⟩
    rcases l with l | ⟨k, c, e, z⟩
    · exact .inl l
    · exact .inr ⟨k, c, e, cellK x c e _ z⟩
  · obtain ⟨v, z⟩ := I.cell x c e
    exact ⟨v, cellK x c e v z⟩
  · obtain ⟨m, ⟨o, _, _, ho, _⟩, _⟩ := I.loc
    exact free _ o (fun z => (hch _ z).2.1 rfl) ho I.free
  · obtain ⟨v, o, ho, hd⟩ := I.cell x c e
    exact free c o (fun z => (hch c z).2.2.1 x c e rfl) ho (I.freeC x c e)
  · obtain ⟨e, n, ne, nf, d⟩ := I.pin p hp
    have nch : p.1 ∉ ch := fun z => (hch p.1 z).2.2.2 p hp rfl
    exact ⟨keep p.1 p.2 ne nf nch e n, free p.1 p.2 nch e n, ne, nf, d⟩
theorem Inv.un {t' : Nat} (I : Inv X pins σ H s) (u : Un X.fs [] H H' s.heap h') (hok : HOk X.prog X.w H' h') : Inv X pins σ H' { s with heap := h', toks := t' } := by
  obtain ⟨m, ⟨o, es, ep, ho, r⟩, _⟩ := id I.loc
  obtain ⟨sl, hL⟩ := u.any ho I.free (by simp)
  exact I.step (g' := s.gens) (d' := s.drawn) (ch := []) (fun _ z => nomatch z) (fun b o _ hb _ e n => u.keep b o e n hb (by simp)) (fun b o _ hb _ e n => u.slot b o e n hb (by simp)) (fun b o _ e n => u.free b o e n (by simp)) (fun b o _ e => u.there b o e (by simp)) u.tups u.frzs u.tbls (fun m' hm => by
    obtain ⟨o', es', ep', ho', r'⟩ := hm
    rw [ho] at ho'; cases ho'
    exact ⟨_, es', ep', hL, r'⟩) hok I.bare
theorem Inv.call {g' : Array GenState} {t' : Nat} {d' : Drawn} {ch : List Addr} (I : Inv X pins σ H s) (u : Un (frs X.stack) ch H H' s.heap h') (hok : HOk X.prog X.w H' h') (hg : AllBare g')
    (hch : ∀ b ∈ ch, (b ∈ X.ex ∨ X.s₀.heap.objs.size <= b) /\ b ≠ X.env.locals /\ (∀ x c, X.env.cells.lookup x = some c -> c ≠ b) /\ ∀ p ∈ X.pn ++ pins, p.1 ≠ b) :
    Inv X pins σ H' { s with heap := h', gens := g', drawn := d', toks := t' } := by
  obtain ⟨m, ⟨o, es, ep, ho, r⟩, _⟩ := id I.loc
  obtain ⟨sl, hL⟩ := u.any ho I.free fun z => (hch _ z).2.1 rfl
  exact I.step (ch := ch) hch (fun b o hL hb hc e n => u.keep b o e n (fun z => (List.mem_cons.mp (I.stkSub b z)).elim hL hb) hc) (fun b o _ _ hc e n => u.any e n hc) (fun b o hc e n => u.free b o e n hc) (fun b o hc e => u.there b o e hc) u.tups u.frzs u.tbls (fun m' hm => by
    obtain ⟨o', es', ep', ho', r'⟩ := hm
    rw [ho] at ho'; cases ho'
    exact ⟨_, es', ep', hL, r'⟩) hok hg
theorem Inv.turned {t' : Nat} {it : Addr} (I : Inv X pins σ H s) (k : ∀ b o, b ≠ it -> s.heap.get? b = some o -> h'.get? b = some o) (hn : H it = none) (hL : it ≠ X.env.locals)
    (h1 : it ∈ X.ex ∨ X.s₀.heap.objs.size <= it) (h2 : ∀ x c, X.env.cells.lookup x = some c -> c ≠ it) (h3 : ∀ p ∈ X.pn ++ pins, p.1 ≠ it) : Inv X pins σ H { s with heap := h', toks := t' } := by
  have nit : ∀ b u, H b = some u -> b ≠ it := fun b u e z => by rw [z, hn] at e; cases e
  refine I.step (g' := s.gens) (d' := s.drawn) (ch := [it]) (fun b hb => ?_) (fun b o _ _ hc e _ => k b o (fun z => hc (by simp [z])) e) (fun b o _ _ hc e _ => ⟨o.slots, k b o (fun z => hc (by simp [z])) e⟩) (fun _ _ _ _ n => n)
    (fun b o hc e => ⟨o, k b o (fun z => hc (by simp [z])) e⟩) (fun _ _ e => e) (fun _ _ _ e => e) (fun b ps e => ⟨#[], by rw [e]; simp⟩) (fun m hm => ?_) (fun b u e => ?_) I.bare
  · have e : b = it := by simpa using hb
    subst e
    exact ⟨h1, hL, h2, h3⟩
  · obtain ⟨o, es, ep, ho, r⟩ := hm
    exact ⟨o, es, ep, k _ o (Ne.symm hL) ho, r⟩
  · refine (I.hok b u e).stay (fun c v hc q => k c v ?_ q) (fun _ q => q) fun _ _ q => q
    rcases hc with z | z
    · rw [z]; exact nit b u e
    · exact nit c _ z
theorem Inv.tok (I : Inv X pins σ H s) (t : Nat) : Inv X pins σ H { s with toks := t } := I.un (h' := s.heap) (t' := t) Un.refl I.hok
theorem Inv.kept {t' : Nat} (I : Inv X pins σ H s) (k : ∀ b u, s.heap.get? b = some u -> h'.get? b = some u) : Inv X pins σ H { s with heap := h', toks := t' } := I.un (Un.kept k) (I.hok.kept k)
theorem Inv.laid {a : Addr} {o : HO} {t' : Nat} (I : Inv X pins σ H s) (k : ∀ b u, s.heap.get? b = some u -> h'.get? b = some u) (hp : s.heap.objs.size <= a) (new : ObjOk X.prog X.w (upd H a o) h' a o) :
    Inv X pins σ (upd H a o) { s with heap := h', toks := t' } := I.un (Un.laid k hp (I.hok.fresh hp)) (I.hok.laid k hp new)
theorem Inv.write {x e : Addr} {o : HO} {t' : Nat} (I : Inv X pins σ H s) (mu : Mut (H x)) (he : e = x ∨ H e = some (.own x)) (k : ∀ b u, b ≠ e -> s.heap.get? b = some u -> h'.get? b = some u) (heo : ∃ u, h'.get? e = some u)
    (new : ObjOk X.prog X.w (upd H x o) h' x o) : Inv X pins σ (upd H x o) { s with heap := h', toks := t' } := I.un (Un.write mu he k heo) (I.hok.write mu he k heo new)
theorem Inv.pins_of {pins' : List (Addr × Obj)} (I : Inv X pins σ H s) (h : ∀ p ∈ pins', s.heap.get? p.1 = some p.2 /\ H p.1 = none /\ p.1 ≠ X.env.locals /\ p.1 ∉ X.fs /\ ∀ v, p.2.data ≠ .cell v) : Inv X pins' σ H s :=
  ⟨I.ok, I.os, I.bare, I.base, I.loc, I.cell, I.free, I.freeC, fun p hp => (List.mem_append.mp hp).elim (fun z => I.pin p (List.mem_append_left _ z)) (h p), I.hok, I.len⟩
theorem nodup_ix {N : List Str} (hN : N.Nodup) {i j : Nat} {x : Str} (a : N[i]? = some x) (b : N[j]? = some x) : i = j := by
  obtain ⟨h1, e1⟩ := List.getElem?_eq_some_iff.mp a
  obtain ⟨h2, e2⟩ := List.getElem?_eq_some_iff.mp b
  exact (List.getElem_inj hN).mp (e1.trans e2.symm)
theorem store_ok2 {M : Model} {A : Around} {E : Value -> Shared -> Prop} {i : Nat} {x : Str} {v : V} {u : Value} {Q : Unit -> Shared -> Prop} (I : Inv X pins σ H s) (hN : X.N.Nodup) (hi : X.N[i]? = some x) (hx : Loc X.env.scope x) (r : RelV v u)
    (h : ∀ s', Inv X pins (σ.set i (some v)) H s' -> (∃ a, Heap.SameBut a s.heap s'.heap /\ (a = X.env.locals ∨ X.env.cells.lookup x = some a)) -> Q () s') (hf : X.fn x = true ∨ X.env.scope.names.lookup x = some .local := by first | exact .inl rfl | exact .inr rfl | assumption) : wpAny M A (storeName X.env x u) Q E s := by
  obtain ⟨m, hn, hl⟩ := id I.loc
  have hcls : (X.env.scope.kind == .class || (X.env.scope.kind == .module && X.env.locals != X.env.globals)) = false := by rw [I.ok.kind]; rfl
  have hiσ : i < σ.length := by rw [I.len]; exact (List.getElem?_eq_some_iff.mp hi).1
  have cne := I.cne
  have tracked : ∀ {a : Addr} {h' : Heap}, (∃ o, s.heap.get? a = some o /\ H a = none) -> Heap.SameBut a s.heap h' -> HOk X.prog X.w H h' := fun {a h'} ha hs b ob e => by
    obtain ⟨_, _, hfree⟩ := ha
    refine (I.hok b ob e).stay (fun c w' hc q => (hs.2 c ?_).trans q) (fun _ q => q) fun _ _ q => q
    rintro rfl
    rcases hc with rfl | hc
    · rw [hfree] at e; cases e
    · rw [hfree] at hc; cases hc
  rcases hx with hk | hk
  · refine wpAny_storeName_local hk hn (fun h' hn' hs => ?_) hcls
    obtain ⟨oL, _, _, hoL, _⟩ := id hn
    refine h _ ⟨I.ok, I.os, I.bare, ⟨fun b o e n hb hx => ?_, fun b o e n hb hx => ?_, I.base.free, fun b o e hx => ?_, I.base.tups, I.base.frzs, I.base.tbls⟩, ⟨_, hn', fun j y v' e1 e2 e3 => ?_⟩, fun y c e => ?_, I.free, I.freeC, fun p hp => ?_, tracked ⟨oL, hoL, I.free⟩ hs, by simpa using I.len⟩ ⟨_, hs, .inl rfl⟩
    · exact (hs.2 b (Nat.ne_of_lt (Nat.lt_of_lt_of_le (Heap.lt_size e) I.ok.above))).trans (I.base.keep b o e n hb hx)
    · obtain ⟨sl, e1⟩ := I.base.slot b o e n hb hx
      exact ⟨sl, (hs.2 b (Nat.ne_of_lt (Nat.lt_of_lt_of_le (Heap.lt_size e) I.ok.above))).trans e1⟩
    · obtain ⟨o', e1⟩ := I.base.there b o e hx
      exact ⟨o', (hs.2 b (Nat.ne_of_lt (Nat.lt_of_lt_of_le (Heap.lt_size e) I.ok.above))).trans e1⟩
    · by_cases hj : j = i
      · subst hj
        rw [hi] at e1; cases e1
        rw [List.getElem?_set_self hiσ] at e2
        cases e2
        exact ⟨u, r, .inl ⟨hk, by simp⟩⟩
      · rw [List.getElem?_set_ne (Ne.symm hj)] at e2
        obtain ⟨u', r', q⟩ := hl j y v' e1 e2 e3
        refine ⟨u', r', ?_⟩
        rcases q with ⟨k, e⟩ | ⟨k, c, e, z⟩
        · refine .inl ⟨k, ?_⟩
          have : y ≠ x := fun e => hj (nodup_ix hN e1 (e ▸ hi))
          simp [this, e]
        · exact .inr ⟨k, c, e, z.sameBut hs (cne y c e)⟩
    · obtain ⟨w', z⟩ := I.cell y c e
      exact ⟨w', z.sameBut hs (cne y c e)⟩
    · obtain ⟨e, n, ne, nf, d⟩ := I.pin p hp
      exact ⟨(hs.2 p.1 ne).trans e, n, ne, nf, d⟩
  · have hfn : X.fn x = true := by
      rcases hf with z | z
      · exact z
      · rw [z] at hk; cases hk
    obtain ⟨c, hc⟩ := I.ok.has x (.inl hk)
    obtain ⟨w', z⟩ := I.cell x c hc
    refine wpAny_storeName_cell I.ok.kind hk hc z (fun h' hc' hs => ?_)
    obtain ⟨oc, hoc, hocd⟩ := id z
    refine h { s with heap := h' } ⟨I.ok, I.os, I.bare, ⟨fun b o e n hb hx => ?_, fun b o e n hb hx => ?_, I.base.free, fun b o e hx => ?_, I.base.tups, I.base.frzs, I.base.tbls⟩, ⟨m, hn.sameBut hs (Ne.symm (cne x c hc)), fun j y v' e1 e2 e3 => ?_⟩, fun y c' e => ?_, I.free, I.freeC, fun p hp => ?_, tracked ⟨oc, hoc, I.freeC x c hc⟩ hs, by simpa using I.len⟩ ⟨c, hs, .inr hc⟩
    · exact (hs.2 b (Nat.ne_of_lt (Nat.lt_of_lt_of_le (Heap.lt_size e) (I.ok.cab x c hfn hc)))).trans (I.base.keep b o e n hb hx)
    · obtain ⟨sl, e1⟩ := I.base.slot b o e n hb hx
      exact ⟨sl, (hs.2 b (Nat.ne_of_lt (Nat.lt_of_lt_of_le (Heap.lt_size e) (I.ok.cab x c hfn hc)))).trans e1⟩
    · obtain ⟨o', e1⟩ := I.base.there b o e hx
      exact ⟨o', (hs.2 b (Nat.ne_of_lt (Nat.lt_of_lt_of_le (Heap.lt_size e) (I.ok.cab x c hfn hc)))).trans e1⟩
    · by_cases hj : j = i
      · subst hj
        rw [hi] at e1; cases e1
        rw [List.getElem?_set_self hiσ] at e2
        cases e2
        exact ⟨u, r, .inr ⟨.inl hk, c, hc, hc'⟩⟩
      · rw [List.getElem?_set_ne (Ne.symm hj)] at e2
        obtain ⟨u', r', q⟩ := hl j y v' e1 e2 e3
        refine ⟨u', r', ?_⟩
        rcases q with q | ⟨k, c', e, z'⟩
        · exact .inl q
        · refine .inr ⟨k, c', e, z'.sameBut hs ?_⟩
          rintro rfl
          exact hj (nodup_ix hN e1 (I.ok.inj _ _ _ e hc ▸ hi))
    · by_cases hcc : c' = c
      · subst hcc; exact ⟨_, hc'⟩
      · obtain ⟨w2, z2⟩ := I.cell y c' e
        exact ⟨w2, z2.sameBut hs hcc⟩
    · obtain ⟨e, n, ne, nf, d⟩ := I.pin p hp
      refine ⟨(hs.2 p.1 ?_).trans e, n, ne, nf, d⟩
      intro q
      rw [q, hoc] at e
      have q' : oc = p.2 := Option.some.inj e
      exact d w' (by rw [<- q']; exact hocd)
theorem store_ok {M : Model} {A : Around} {E : Value -> Shared -> Prop} {i : Nat} {x : Str} {v : V} {u : Value} {Q : Unit -> Shared -> Prop} (I : Inv X pins σ H s) (hN : X.N.Nodup) (hi : X.N[i]? = some x) (hx : Loc X.env.scope x) (r : RelV v u)
    (h : ∀ s', Inv X pins (σ.set i (some v)) H s' -> Q () s') (hf : X.fn x = true ∨ X.env.scope.names.lookup x = some .local := by first | exact .inl rfl | exact .inr rfl | assumption) : wpAny M A (storeName X.env x u) Q E s :=
  store_ok2 I hN hi hx r (fun s' I' _ => h s' I') hf
theorem Inv.call' {s' : Shared} {ch : List Addr} (I : Inv X pins σ H s) (ho : s'.os = s.os) (u : Un (frs X.stack) ch H H' s.heap s'.heap) (hok : HOk X.prog X.w H' s'.heap) (hg : AllBare s'.gens)
    (hch : ∀ b ∈ ch, (b ∈ X.ex ∨ X.s₀.heap.objs.size <= b) /\ b ≠ X.env.locals /\ (∀ x c, X.env.cells.lookup x = some c -> c ≠ b) /\ ∀ p ∈ X.pn ++ pins, p.1 ≠ b) : Inv X pins σ H' s' := by
  obtain ⟨h', g', d', t', o'⟩ := s'
  have e : o' = s.os := ho
  subst e
  exact I.call (g' := g') (t' := t') (d' := d') u hok hg hch
end
abbrev XK := Value -> Option Addr -> Hp -> Prop
abbrev St := List (Option V)
abbrev VK := V -> Hp -> Prop
abbrev TE := St -> Hp -> VK -> Prop
abbrev TT := St -> Hp -> (Bool -> Hp -> Prop) -> Prop
abbrev TA := St -> Hp -> (List V -> Hp -> Prop) -> Prop
structure Ends where
  nx : St -> Hp -> Prop
  rt : VK
  bk : St -> Hp -> Prop := fun _ _ => False
  ct : St -> Hp -> Prop := fun _ _ => False
abbrev TS := Ends -> St -> Hp -> Prop
def EP (X : Cx) (pins : List (Addr × Obj)) (σ : St) (Q : VK) (u : Value) (s' : Shared) : Prop := ∃ v H', Inv X pins σ H' s' /\ RelV v u /\ Q v H'
def TP (X : Cx) (pins : List (Addr × Obj)) (σ : St) (Q : Bool -> Hp -> Prop) (b : Bool) (s' : Shared) : Prop := ∃ H', Inv X pins σ H' s' /\ Q b H'
def AP (X : Cx) (pins : List (Addr × Obj)) (σ : St) (Q : List V -> Hp -> Prop) (us : List Value) (s' : Shared) : Prop := ∃ vs H', Inv X pins σ H' s' /\ Vals vs us /\ Q vs H'
def SP (X : Cx) (pins : List (Addr × Obj)) (D : Ends) (f : Flow) (s' : Shared) : Prop :=
  match f with
  | .next => ∃ σ' H', Inv X pins σ' H' s' /\ D.nx σ' H'
  | .brk => ∃ σ' H', Inv X pins σ' H' s' /\ D.bk σ' H'
  | .cont => ∃ σ' H', Inv X pins σ' H' s' /\ D.ct σ' H'
  | .ret u => ∃ v σ' H', Inv X pins σ' H' s' /\ RelV v u /\ D.rt v H'
def PE (X : Cx) (e : Expr) (t : TE) : Prop :=
  ∀ (pins : List (Addr × Obj)) (s : Shared) (σ : St) (H : Hp) (Q : VK), Inv X pins σ H s -> t σ H Q -> wpAny (model X.prog X.w) X.A (eval e X.env) (EP X pins σ Q) X.xe s
def PT (X : Cx) (e : Expr) (t : TT) : Prop :=
  ∀ (pins : List (Addr × Obj)) (s : Shared) (σ : St) (H : Hp) (Q : Bool -> Hp -> Prop), Inv X pins σ H s -> t σ H Q -> wpAny (model X.prog X.w) X.A (isTrue e X.env (eval e X.env)) (TP X pins σ Q) X.xe s
def PW (X : Cx) (e : Expr) (t : TT) : Prop :=
  ∀ (whole : Sem Value) (pins : List (Addr × Obj)) (s : Shared) (σ : St) (H : Hp) (Q : Bool -> Hp -> Prop), Inv X pins σ H s -> t σ H Q -> wpAny (model X.prog X.w) X.A (isTrue e X.env whole) (TP X pins σ Q) X.xe s
theorem PW.pt {X : Cx} {e : Expr} {t : TT} (h : PW X e t) : PT X e t := h _
def PA (X : Cx) (es : List Expr) (t : TA) : Prop :=
  ∀ (pos : Pos) (pins : List (Addr × Obj)) (s : Shared) (σ : St) (H : Hp) (Q : List V -> Hp -> Prop), Inv X pins σ H s -> t σ H Q -> wpAny (model X.prog X.w) X.A (spliced (backTo pos (starEach es X.env))) (AP X pins σ Q) X.xe s
def PS (X : Cx) (st : Stmt) (t : TS) : Prop :=
  ∀ (pins : List (Addr × Obj)) (s : Shared) (σ : St) (H : Hp) (D : Ends), Inv X pins σ H s -> t D σ H -> wpAny (model X.prog X.w) X.A (exec st X.env) (SP X pins D) X.xe s
def PSs (X : Cx) (st : List Stmt) (t : TS) : Prop :=
  ∀ (pins : List (Addr × Obj)) (s : Shared) (σ : St) (H : Hp) (D : Ends), Inv X pins σ H s -> t D σ H -> wpAny (model X.prog X.w) X.A (execs st X.env) (SP X pins D) X.xe s
theorem thn {α : Type} {t : Sem α} {Q Q' : α -> Shared -> Prop} {M : Model} {A : Around} {E : Value -> Shared -> Prop} {s : Shared} (h : wpAny M A t Q E s) (hQ : ∀ a s, Q a s -> Q' a s) : wpAny M A t Q' E s := wpAny_mono h hQ fun _ _ x => x
end L2
namespace L2
open PySem PySem.Spec PyProof.Rows
section
variable {X : Cx}
theorem bin {a b : Expr} {ta tb : TE} (ha : PE X a ta) (hb : PE X b tb) {pins : List (Addr × Obj)} {s : Shared} {σ : St} {H : Hp} {R : V -> V -> Hp -> Prop} (I : Inv X pins σ H s) (h : ta σ H fun x H1 => tb σ H1 fun y H2 => R x y H2)
    {α : Type} {Q : α -> Shared -> Prop} {f : Value -> Value -> Sem α}
    (hf : ∀ v u s2 x y H2, Inv X pins σ H2 s2 -> RelV x v -> RelV y u -> R x y H2 -> wpAny (model X.prog X.w) X.A (f v u) Q X.xe s2) :
    wpAny (model X.prog X.w) X.A (eval a X.env) (fun v s₁ => wpAny (model X.prog X.w) X.A (eval b X.env) (fun u s₂ => wpAny (model X.prog X.w) X.A (f v u) Q X.xe s₂) X.xe s₁) X.xe s := by
  refine thn (ha pins s σ H _ I h) fun v s1 ⟨x, H1, I1, r1, q1⟩ => ?_
  refine thn (hb pins s1 σ H1 _ I1 q1) fun u s2 ⟨y, H2, I2, r2, q2⟩ => ?_
  exact hf v u s2 x y H2 I2 r1 r2 q2
def tVar (i : Nat) : TE := fun σ H Q => ∃ v, σ[i]? = some (some v) /\ Q v H
def tC (v : V) : TE := fun _ H Q => Q v H
theorem pe_var {i : Nat} {x : Str} {pos : Pos} (hN : X.N[i]? = some x) (hv : Vis X.env.scope x) (hd : (x == ("__debug__" : Str)) = false := by decide) (hcd : (x == ("__classdict__" : Str)) = false := by decide) : PE X (.Name x pos) (tVar i) := by
  intro pins s σ H Q I h
  obtain ⟨v, e, h⟩ := h
  obtain ⟨m, hn, hl⟩ := I.loc
  obtain ⟨u, r, l⟩ := hl i x v hN e hv
  have fin : EP X pins σ Q u s := ⟨v, H, I, r, h⟩
  rcases l with ⟨hk, hm⟩ | ⟨hk, c, hc, hcell⟩
  · exact wpAny_Name (wpAny_loadName_local I.ok.kind hk hn hm fin) hd
  · rcases hk with hk | hk
    · exact wpAny_Name (wpAny_loadName_cell I.ok.kind hk hc hcell fin) hd
    · exact wpAny_Name (wpAny_loadName_free I.ok.kind hk hc hcell fin hcd) hd
theorem pe_int {i j pos} : PE X (.Constant (.int i) j pos) (tC (.int i)) := fun _ _ _ H _ I h => wpAny_Constant_int ⟨.int i, H, I.tok _, ⟨_, rfl⟩, h⟩
theorem pe_bl {b j pos} : PE X (.Constant (.bool b) j pos) (tC (.bl b)) := fun _ _ _ H _ I h => Constant_bool ⟨.bl b, H, I, rfl, h⟩
theorem pe_non {j pos} : PE X (.Constant .none j pos) (tC .non) := fun _ _ _ H _ I h => Constant_none ⟨.non, H, I, rfl, h⟩
theorem pe_str {x j pos} : PE X (.Constant (.str x) j pos) (tC (.str x)) := fun _ _ _ H _ I h => Calls.Constant_str ⟨.str x, H, I.tok _, ⟨_, rfl⟩, h⟩
def Gl (X : Cx) (x : Str) : Prop := X.env.kindOf x = some .globalImplicit
theorem ld_glob {E : Value -> Shared -> Prop} {pins : List (Addr × Obj)} {s : Shared} {σ : St} {H : Hp} {x : Str} {u : Value} {pos : Pos} {Q : Value -> Shared -> Prop} (I : Inv X pins σ H s) (hg : Gl X x) (hm : X.mg x = some u) (h : Q u s)
    (hd : (x == ("__debug__" : Str)) = false := by decide) : wpAny (model X.prog X.w) X.A (eval (.Name x pos) X.env) Q E s :=
  Calls.Name_function_global I.ok.kind hg (Calls.loadGlobal_global (by rw [I.ok.glob]; exact I.mod.glob.keeps I.bk) hm h) hd
theorem ld_blt {E : Value -> Shared -> Prop} {pins : List (Addr × Obj)} {s : Shared} {σ : St} {H : Hp} {x : Str} {u : Value} {pos : Pos} {Q : Value -> Shared -> Prop} (I : Inv X pins σ H s) (hg : Gl X x) (hm : X.mg x = none) (hv : bootBuiltins x = some u) (h : Q u s)
    (hn : x ≠ "__name__" := by decide) (hd : (x == ("__debug__" : Str)) = false := by decide) : wpAny (model X.prog X.w) X.A (eval (.Name x pos) X.env) Q E s := by
  obtain ⟨mb, h1, h2⟩ := I.mod.blt
  exact Calls.Name_function_global I.ok.kind hg (Calls.loadGlobal_builtin (by rw [I.ok.glob]; exact I.mod.glob.keeps I.bk) hm (by rw [I.ok.blt]; exact h1.keeps I.bk) ((h2 x hn).trans hv) h) hd
variable {a b : Expr} {ta tb : TE} {pos : Pos}
def PC (X : Cx) (op : CmpOp) (a b : Expr) (t : TE) : Prop :=
  ∀ (pins : List (Addr × Obj)) (s : Shared) (σ : St) (H : Hp) (Q : VK), Inv X pins σ H s -> t σ H Q ->
    wpAny (model X.prog X.w) X.A (eval a X.env) (fun v s₁ => wpAny (model X.prog X.w) X.A (eval b X.env) (fun u s₂ => wpAny (model X.prog X.w) X.A (compareOp op v u) (EP X pins σ Q) X.xe s₂) X.xe s₁) X.xe s
theorem nobehind (b : Expr) {op : CmpOp} (h : op ≠ .In) (h2 : op ≠ .NotIn) : behindInMarks op b = false := by
  have e1 : (op == CmpOp.In) = false := by cases op <;> first | rfl | exact absurd rfl h
  have e2 : (op == CmpOp.NotIn) = false := by cases op <;> first | rfl | exact absurd rfl h2
  cases b <;> simp [behindInMarks, e1, e2]
def tIsN (ta : TE) : TE := fun σ H Q => ta σ H fun x H1 => Q (.bl (decide (x = .non))) H1
theorem RelV.none_iff {x : V} {v : Value} (r : RelV x v) : (v == Value.none) = decide (x = .non) := by
  cases x with
  | non => cases r; rfl
  | bl _ => cases r; rfl
  | int _ => obtain ⟨t, rfl⟩ := r; rfl
  | str _ => obtain ⟨t, rfl⟩ := r; rfl
  | byt _ => obtain ⟨t, rfl⟩ := r; rfl
  | flt _ => obtain ⟨t, rfl⟩ := r; rfl
  | ref _ => cases r; rfl
  | ty _ => cases r; rfl
theorem pc_isN {j pos'} (ha : PE X a ta) : PC X .Is a (.Constant .none j pos') (tIsN ta) := by
  intro pins s σ H Q I h
  refine thn (ha pins s σ H _ I h) fun v s1 ⟨x, H1, I1, r1, q1⟩ => ?_
  exact Constant_none (is_none_gen ⟨.bl _, H1, I1, by rw [r1.none_iff]; rfl, q1⟩)
def tB (t : TE) : TT := fun σ H Q => t σ H fun x H1 => ∃ c, x = .bl c /\ Q c H1
theorem pt_cmp {op : CmpOp} {t : TE} (h : PC X op a b t) (h1 : behindInMarks op b = false := by first | exact nobehind _ (by decide) (by decide) | rfl) : PT X (.Compare a [op] [b] pos) (tB t) := by
  intro pins s σ H Q I hw
  refine wpAny_isTrue_Compare1 (thn (h pins s σ H _ I hw) fun v s1 h1 => thn h1 fun u s2 h2 => thn h2 fun c s3 ⟨x, H1, I1, r1, q1⟩ => ?_) h1
  obtain ⟨d, rfl, q⟩ := q1
  cases r1
  exact wpAny_truthy_bool ⟨H1, I1, q⟩
variable {tA tB' : TT} {rest : List Expr}
def tAnd (t u : TT) : TT := fun σ H Q => t σ H fun c H1 => if c = true then u σ H1 Q else Q false H1
def tOr (t u : TT) : TT := fun σ H Q => t σ H fun c H1 => if c = true then Q true H1 else u σ H1 Q
def tNot (t : TT) : TT := fun σ H Q => t σ H fun c H1 => Q (!c) H1
theorem pw_and1 (ha : PT X a tA) : PW X (.BoolOp .And [a] pos) tA := by
  intro wh pins s σ H Q I h
  refine isTrue_and (thn (ha pins s σ H Q I h) fun c s1 e => ?_)
  cases c with
  | true => exact isTrue_and_nil e
  | false => exact e
theorem pw_or1 (ha : PT X a tA) : PW X (.BoolOp .Or [a] pos) tA := by
  intro wh pins s σ H Q I h
  refine isTrue_or (thn (ha pins s σ H Q I h) fun c s1 e => ?_)
  cases c with
  | false => exact isTrue_or_nil e
  | true => exact e
theorem pw_and (ha : PT X a tA) (hb : PW X (.BoolOp .And (b :: rest) pos) tB') : PW X (.BoolOp .And (a :: b :: rest) pos) (tAnd tA tB') := by
  intro wh pins s σ H Q I h
  refine isTrue_and (thn (ha pins s σ H _ I h) fun c s1 ⟨H1, I1, q1⟩ => ?_)
  cases c with
  | true => exact hb wh pins s1 σ H1 Q I1 q1
  | false => exact ⟨H1, I1, q1⟩
theorem pw_or (ha : PT X a tA) (hb : PW X (.BoolOp .Or (b :: rest) pos) tB') : PW X (.BoolOp .Or (a :: b :: rest) pos) (tOr tA tB') := by
  intro wh pins s σ H Q I h
  refine isTrue_or (thn (ha pins s σ H _ I h) fun c s1 ⟨H1, I1, q1⟩ => ?_)
  cases c with
  | true => exact ⟨H1, I1, q1⟩
  | false => exact hb wh pins s1 σ H1 Q I1 q1
theorem pt_not (ha : PT X a tA) : PT X (.UnaryOp .Not a pos) (tNot tA) := by
  intro pins s σ H Q I h
  exact isTrue_not (ha pins s σ H (fun c H1 => Q (!c) H1) I h)
def tAndV (ta tb : TE) : TE := fun σ H Q => ta σ H fun x H1 => ∃ c, x = .bl c /\ if c = true then tb σ H1 Q else Q (.bl false) H1
theorem pe_one {op} {t : TE} (h : PE X a t) : PE X (.BoolOp op [a] pos) t := fun pins s σ H Q I hw => BoolOp_one (h pins s σ H Q I hw)
theorem pe_and (ha : PE X a ta) (hb : PE X (.BoolOp .And (b :: rest) pos) tb) : PE X (.BoolOp .And (a :: b :: rest) pos) (tAndV ta tb) := by
  intro pins s σ H Q I h
  refine BoolOp_and (thn (ha pins s σ H _ I h) fun v s1 ⟨x, H1, I1, r1, q1⟩ => ?_)
  obtain ⟨c, rfl, q1⟩ := q1
  cases r1
  refine wpAny_truthy_bool ?_
  cases c with
  | true => exact hb pins s1 σ H1 Q I1 q1
  | false => exact ⟨.bl false, H1, I1, rfl, q1⟩
def tIf (t : TT) (ta tb : TE) : TE := fun σ H Q => t σ H fun c H1 => if c = true then ta σ H1 Q else tb σ H1 Q
theorem pe_ifExp {c : Expr} (hc : PT X c tA) (ha : PE X a ta) (hb : PE X b tb) : PE X (.IfExp c a b pos) (tIf tA ta tb) := by
  intro pins s σ H Q I h
  refine wpAny_IfExp (thn (hc pins s σ H _ I h) fun d s1 ⟨H1, I1, q1⟩ => ?_)
  cases d with
  | true => exact ha pins s1 σ H1 Q I1 q1
  | false => exact hb pins s1 σ H1 Q I1 q1
end
end L2
namespace L2
open PySem PySem.Spec PyProof.Rows
def SqL (K : PySem.W.Frag) (H : Hp) (a : Addr) (xs : List V) : Prop :=
  Rd H a (.lst xs) ∨
    ∃ (o : Obj) (its : Array Value) (n : Nat), K.lookup a = some o /\ o.cls = .type "list" /\ o.dict = none /\ o.data = .seq its n /\ its.size <= sizeLine /\ Vals xs its.toList
def SqT (K : PySem.W.Frag) (H : Hp) (a : Addr) (xs : List V) : Prop :=
  Rd H a (.tup xs) ∨
    ∃ (o : Obj) (its : Array Value) (n : Nat), K.lookup a = some o /\ o.cls = .type "tuple" /\ o.data = .seq its n /\ its.size <= sizeLine /\ Vals xs its.toList
def absV : Value -> Option V
  | .none => some .non
  | .bool b => some (.bl b)
  | .int i _ => some (.int i)
  | .str x _ => some (.str x)
  | .bytes b _ => some (.byt b)
  | .float b _ => some (.flt b)
  | .ref a => some (.ref a)
  | .type n => some (.ty n)
  | _ => none
theorem RelV.abs {x : V} {u : Value} (r : RelV x u) : absV u = some x := by
  cases x with
  | non => cases r; rfl
  | bl _ => cases r; rfl
  | int _ => obtain ⟨t, rfl⟩ := r; rfl
  | str _ => obtain ⟨t, rfl⟩ := r; rfl
  | byt _ => obtain ⟨t, rfl⟩ := r; rfl
  | flt _ => obtain ⟨t, rfl⟩ := r; rfl
  | ref _ => cases r; rfl
  | ty _ => cases r; rfl
theorem RelV.inj {x y : V} {u : Value} (r : RelV x u) (q : RelV y u) : x = y := Option.some.inj (r.abs.symm.trans q.abs)
theorem Vals.inj : ∀ {xs ys : List V} {us : List Value}, Vals xs us -> Vals ys us -> xs = ys
  | _, _, _, .nil, .nil => rfl
  | _, _, _, .cons r t, .cons r' t' => by rw [r.inj r', Vals.inj t t']
section
variable {X : Cx} {pins : List (Addr × Obj)} {σ : St} {H : Hp} {s : Shared} {a : Addr} {xs ys : List V}
theorem SqL.of {K : PySem.W.Frag} (h : H a = some (.lst xs)) : SqL K H a xs := .inl (.inl h)
theorem SqT.of {K : PySem.W.Frag} (h : H a = some (.tup xs)) : SqT K H a xs := .inl (.inl h)
theorem Inv.list (I : Inv X pins σ H s) (h : SqL X.K H a xs) : ∃ its : List Value, Vals xs its /\ PlainL s.heap a its.toArray /\ xs.length <= sizeLine := by
  rcases h with h | ⟨o, its, n, hk, hc, hd, hs, hz, r⟩
  · obtain ⟨z, its, n, r, e⟩ := h.ok I.hok
    exact ⟨its, r, ⟨_, n, e, rfl, rfl, rfl⟩, z⟩
  · refine ⟨its.toList, r, ⟨o, n, I.kIn a o hk, hc, hd, by simpa using hs⟩, ?_⟩
    have e := r.length
    simp only [Array.length_toList] at e
    omega
theorem Inv.tuple (I : Inv X pins σ H s) (h : SqT X.K H a xs) : ∃ its : List Value, Vals xs its /\ IsTup s.heap a its.toArray /\ xs.length <= sizeLine := by
  rcases h with h | ⟨o, its, n, hk, hc, hs, hz, r⟩
  · obtain ⟨z, its, r, p⟩ := h.ok I.hok
    exact ⟨its, r, p, z⟩
  · refine ⟨its.toList, r, ⟨o, I.kIn a o hk, hc, n, by simpa using hs⟩, ?_⟩
    have e := r.length
    simp only [Array.length_toList] at e
    omega
theorem Inv.list_inj (I : Inv X pins σ H s) (h : SqL X.K H a xs) (h' : SqL X.K H a ys) : xs = ys := by
  obtain ⟨its, r, ⟨o, n, e, _, _, d⟩, _⟩ := I.list h
  obtain ⟨its', r', ⟨o', n', e', _, _, d'⟩, _⟩ := I.list h'
  rw [e] at e'; cases e'
  rw [d] at d'
  injection d' with d1 _
  have : its = its' := by simpa using congrArg Array.toList d1
  subst this
  exact r.inj r'
theorem Inv.tuple_inj (I : Inv X pins σ H s) (h : SqT X.K H a xs) (h' : SqT X.K H a ys) : xs = ys := by
  obtain ⟨its, r, ⟨o, e, _, n, d⟩, _⟩ := I.tuple h
  obtain ⟨its', r', ⟨o', e', _, n', d'⟩, _⟩ := I.tuple h'
  rw [e] at e'; cases e'
  rw [d] at d'
  injection d' with d1 _
  have : its = its' := by simpa using congrArg Array.toList d1
  subst this
  exact r.inj r'
end
abbrev Cx.wish (X : Cx) (E : Value -> Shared -> Prop) : Cx := { X with xe := E }
abbrev Cx.nox (X : Cx) : Cx := X.wish fun _ _ => False
theorem Cx.Ok.wish {X : Cx} (ok : X.Ok) (E : Value -> Shared -> Prop) : (X.wish E).Ok :=
  ⟨ok.mod, ok.kind, ok.glob, ok.blt, ok.above, ok.inj, ok.has, ok.cab, ok.hd, ok.frames, ok.stk, ok.exf, ok.bs, ok.bsz, ok.noex, ok.exfs, ok.funs, ok.frf⟩
theorem Cx.Ok.unwish {X : Cx} {E : Value -> Shared -> Prop} (ok : (X.wish E).Ok) : X.Ok :=
  ⟨ok.mod, ok.kind, ok.glob, ok.blt, ok.above, ok.inj, ok.has, ok.cab, ok.hd, ok.frames, ok.stk, ok.exf, ok.bs, ok.bsz, ok.noex, ok.exfs, ok.funs, ok.frf⟩
section
variable {X : Cx} {pins : List (Addr × Obj)} {σ : St} {H : Hp} {s : Shared} {E : Value -> Shared -> Prop}
theorem Inv.wish (I : Inv X pins σ H s) (E : Value -> Shared -> Prop) : Inv (X.wish E) pins σ H s := ⟨I.ok.wish E, I.os, I.bare, I.base, I.loc, I.cell, I.free, I.freeC, I.pin, I.hok, I.len⟩
theorem Inv.unwish (I : Inv (X.wish E) pins σ H s) : Inv X pins σ H s := ⟨I.ok.unwish, I.os, I.bare, I.base, I.loc, I.cell, I.free, I.freeC, I.pin, I.hok, I.len⟩
theorem SP.unwish {D : Ends} {f : Flow} {s' : Shared} (h : SP (X.wish E) pins D f s') : SP X pins D f s' := by
  cases f with
  | next => obtain ⟨σ', H', I, q⟩ := h; exact ⟨σ', H', I.unwish, q⟩
  | brk => obtain ⟨σ', H', I, q⟩ := h; exact ⟨σ', H', I.unwish, q⟩
  | cont => obtain ⟨σ', H', I, q⟩ := h; exact ⟨σ', H', I.unwish, q⟩
  | ret u => obtain ⟨v, σ', H', I, r, q⟩ := h; exact ⟨v, σ', H', I.unwish, r, q⟩
theorem PSs.nox {st : List Stmt} {t : TS} (h : PSs X.nox st t) : PSs X st t := fun pins s σ H D I hw =>
  wpAny_mono (h pins s σ H D (I.wish _) hw) (fun _ _ q => q.unwish) fun _ _ z => False.elim z
end
section
variable {X : Cx} {st : Stmt} {rest : List Stmt} {t u : TS} {e : Expr} {te : TE} {pos : Pos}
def tNext : TS := fun D σ H => D.nx σ H
def tSeq (t u : TS) : TS := fun D σ H => t { D with nx := u D } σ H
theorem pss_nil : PSs X [] tNext := fun _ _ σ H _ I h => wpAny_execs_nil ⟨σ, H, I, h⟩
theorem pss_cons (h1 : PS X st t) (h2 : PSs X rest u) : PSs X (st :: rest) (tSeq t u) := by
  intro pins s σ H D I h
  refine wpAny_execs_cons (thn (h1 pins s σ H { D with nx := u D } I h) fun f s1 q => ?_)
  cases f with
  | next =>
    obtain ⟨σ', H', I', q⟩ := q
    exact h2 pins s1 σ' H' D I' q
  | ret v => exact q
  | brk => exact q
  | cont => exact q
theorem pss_one (h1 : PS X st t) : PSs X [st] t := by
  intro pins s σ H D I h
  refine wpAny_execs_cons (thn (h1 pins s σ H D I h) fun f s1 q => ?_)
  cases f with
  | next => exact wpAny_execs_nil q
  | ret v => exact q
  | brk => exact q
  | cont => exact q
theorem Inv.quiet {pins : List (Addr × Obj)} {σ : St} {H : Hp} {s : Shared} (I : Inv X pins σ H s) : interactive X.env = false := by simp [interactive, I.ok.kind]
def tDrop (te : TE) : TS := fun D σ H => te σ H fun _ H1 => D.nx σ H1
theorem ps_expr (he : PE X e te) (hs : swapsWith e none pos.line X.env = pure false := by rfl) : PS X (.Expr e pos) (tDrop te) := by
  intro pins s σ H D I h
  exact wpAny_Expr_any (thn (he pins s σ H _ I h) fun v s1 ⟨x, H1, I1, r1, q1⟩ => ⟨σ, H1, I1, q1⟩) I.quiet hs
def tRet (te : TE) : TS := fun D σ H => te σ H D.rt
theorem ps_ret (he : PE X e te) : PS X (.Return (some e) pos) (tRet te) := by
  intro pins s σ H D I h
  exact wpAny_Return_some (thn (he pins s σ H _ I h) fun v s1 ⟨x, H1, I1, r1, q1⟩ => ⟨x, σ, H1, I1, r1, q1⟩)
def tIfS (c : TT) (t u : TS) : TS := fun D σ H => c σ H fun b H1 => if b = true then t D σ H1 else u D σ H1
theorem ps_if {c : Expr} {a b : List Stmt} {tc : TT} (hc : PT X c tc) (ha : PSs X a t) (hb : PSs X b u) : PS X (.If c a b pos) (tIfS tc t u) := by
  intro pins s σ H D I h
  refine wpAny_If (thn (hc pins s σ H _ I h) fun d s1 ⟨H1, I1, q1⟩ => ?_)
  cases d with
  | true => exact ha pins s1 σ H1 D I1 q1
  | false => exact hb pins s1 σ H1 D I1 q1
def tNever : TS := fun _ _ _ => False
theorem ps_never : PS X st tNever := fun _ _ _ _ _ _ h => h.elim
end
abbrev TG := V -> St -> Hp -> (St -> Hp -> Prop) -> Prop
abbrev TGs := List V -> St -> Hp -> (St -> Hp -> Prop) -> Prop
def PG (X : Cx) (target : Expr) (t : TG) : Prop :=
  ∀ (pins : List (Addr × Obj)) (s : Shared) (σ : St) (H : Hp) (v : V) (u : Value) (Q : St -> Hp -> Prop), Inv X pins σ H s -> RelV v u -> t v σ H Q ->
    wpAny (model X.prog X.w) X.A (assign target X.env u) (fun _ s' => ∃ σ' H', Inv X pins σ' H' s' /\ Q σ' H') X.xe s
def PGs (X : Cx) (ts : List Expr) (t : TGs) : Prop :=
  ∀ (pins : List (Addr × Obj)) (s : Shared) (σ : St) (H : Hp) (vs : List V) (us : List Value) (Q : St -> Hp -> Prop), Inv X pins σ H s -> Vals vs us -> t vs σ H Q ->
    wpAny (model X.prog X.w) X.A (assignInOrder ((assignEach ts X.env).map (·.2)) us) (fun _ s' => ∃ σ' H', Inv X pins σ' H' s' /\ Q σ' H') X.xe s
abbrev TSet := V -> V -> V -> Hp -> (Hp -> Prop) -> Prop
def PSet (X : Cx) (t : TSet) : Prop :=
  ∀ (pins : List (Addr × Obj)) (s : Shared) (σ : St) (H : Hp) (o i v : V) (ov iv u : Value) (Q : Hp -> Prop), Inv X pins σ H s -> RelV o ov -> RelV i iv -> RelV v u -> t o i v H Q ->
    wpAny (model X.prog X.w) X.A (setItem ov iv u) (fun _ s' => ∃ H', Inv X pins σ H' s' /\ Q H') X.xe s
section
variable {X : Cx} {pos : Pos}
def gName (i : Nat) : TG := fun v σ H Q => Q (σ.set i (some v)) H
theorem pg_name {i : Nat} {x : Str} (hN : X.N.Nodup) (hi : X.N[i]? = some x) (hx : Loc X.env.scope x) (hf : X.fn x = true ∨ X.env.scope.names.lookup x = some .local := by first | exact .inl rfl | exact .inr rfl | assumption) : PG X (.Name x pos) (gName i) := by
  intro pins s σ H v u Q I r h
  exact wpAny_assign_Name (store_ok I hN hi hx r (fun s' I' => ⟨_, H, I', h⟩) hf)
def gNil : TGs := fun vs σ H Q => vs = [] /\ Q σ H
def gCons (t : TG) (u : TGs) : TGs := fun vs σ H Q => ∃ v r, vs = v :: r /\ t v σ H fun σ' H' => u r σ' H' Q
theorem pgs_nil : PGs X [] gNil := by
  intro pins s σ H vs us Q I r h
  obtain ⟨e, h⟩ := h
  subst e
  cases r
  exact assignInOrder_nil ⟨σ, H, I, h⟩
theorem pgs_cons {e : Expr} {es : List Expr} {t : TG} {u : TGs} (h1 : PG X e t) (h2 : PGs X es u)
    (hs : (assignEach (e :: es) X.env).map (·.2) = assign e X.env :: (assignEach es X.env).map (·.2) := by rfl) : PGs X (e :: es) (gCons t u) := by
  intro pins s σ H vs us Q I r h
  obtain ⟨v, vr, e1, h⟩ := h
  subst e1
  cases r with
  | cons r rr =>
    rw [hs]
    refine assignInOrder_cons (thn (h1 pins s σ H _ _ _ I r h) fun _ s1 ⟨σ1, H1, I1, q1⟩ => ?_)
    exact h2 pins s1 σ1 H1 _ _ Q I1 rr q1
def gTup (K : PySem.W.Frag) (n : Nat) (t : TGs) : TG := fun v σ H Q => ∃ a xs, v = .ref a /\ SqT K H a xs /\ xs.length = n /\ t xs σ H Q
theorem pg_tup {es : List Expr} {k : Nat} {t : TGs} {n : Nat} (hc : X.calm = true) (h : PGs X es t)
    (hn : (assignEach es X.env).length = n := by rfl) (hst : (assignEach es X.env).findIdx? (·.1) = none := by rfl) : PG X (.Tuple es k pos) (gTup X.K n t) := by
  intro pins s σ H v u Q I r hw
  obtain ⟨a, xs, e1, hq, hl, hw⟩ := hw
  subst e1
  cases r
  obtain ⟨its, rv, ht, hz⟩ := I.tuple hq
  refine assign_Tuple_tuple (I.ok.hd hc) ht (by simp [hn, <- hl, rv.length]) hst fun h' hx => ?_
  have I1 : Inv X pins σ H { s with heap := h' } := I.kept (t' := s.toks) fun b o e => hx b o (Nat.ne_of_lt (Heap.lt_size e)) e
  exact h pins _ σ H xs _ Q I1 (by simpa using rv) hw
def gSub (to ti : TE) (t : TSet) : TG := fun v σ H Q => to σ H fun o H1 => ti σ H1 fun i H2 => t o i v H2 fun H3 => Q σ H3
theorem pg_sub {o i : Expr} {to ti : TE} {t : TSet} (ho : PE X o to) (hi : PE X i ti) (hs : PSet X t)
    (ha : ∀ v, assign (.Subscript o i pos) X.env v = (do
      let ov <- holding [v] (eval o X.env)
      let iv <- holding [v, ov] (eval i X.env)
      standAt pos
      holding [v, ov, iv] (setItem ov iv v)
      release [v, ov, iv] []) := by intro _; rfl) : PG X (.Subscript o i pos) (gSub to ti t) := by
  intro pins s σ H v u Q I r h
  rw [ha]
  refine wpAny_bind (wpAny_holding (thn (ho pins s σ H _ I h) fun ov s1 ⟨x, H1, I1, r1, q1⟩ => ?_))
  refine wpAny_bind (wpAny_holding (thn (hi pins s1 σ H1 _ I1 q1) fun iv s2 ⟨y, H2, I2, r2, q2⟩ => ?_))
  refine wpAny_bind (wpAny_standAt (wpAny_bind (wpAny_holding (thn (hs pins s2 σ H2 x y v ov iv u _ I2 r1 r2 r q2) fun _ s3 ⟨H3, I3, q3⟩ => ?_))))
  exact wpAny_release ⟨σ, H3, I3, q3⟩
def tAsg (te : TE) (g : TG) : TS := fun D σ H => te σ H fun x H1 => g x σ H1 D.nx
theorem ps_asg {tg e : Expr} {te : TE} {g : TG} (he : PE X e te) (hg : PG X tg g) (hs : swapsWithSole [tg] e pos.line X.env = pure false := by rfl) (hw : swappedStores [tg] e X.env = pure none := by rfl)
    (h1 : (assignEach [tg] X.env).map (·.2) = [assign tg X.env] := by rfl) : PS X (.Assign [tg] e pos) (tAsg te g) := by
  intro pins s σ H D I h
  refine wpAny_Assign_stores (thn (he pins s σ H _ I h) fun v s1 ⟨x, H1, I1, r1, q1⟩ => ?_) hs hw
  rw [h1]
  exact thn (hg pins s1 σ H1 x v _ I1 r1 q1) fun _ s2 q => q
theorem ps_set {i : Nat} {x : Str} {e : Expr} {te : TE} {pos' : Pos} (hN : X.N.Nodup) (hi : X.N[i]? = some x) (hx : Loc X.env.scope x) (he : PE X e te) (hs : swapsWith e (some (.Name x pos')) pos.line X.env = pure false := by rfl) (hf : X.fn x = true ∨ X.env.scope.names.lookup x = some .local := by first | exact .inl rfl | exact .inr rfl | assumption) :
    PS X (.Assign [.Name x pos'] e pos) (tAsg te (gName i)) := by
  intro pins s σ H D I h
  refine wpAny_Assign_Name (thn (he pins s σ H _ I h) fun v s1 ⟨y, H1, I1, r1, q1⟩ => ?_) hs
  exact store_ok I1 hN hi hx r1 (fun s2 I2 => ⟨_, H1, I2, q1⟩) hf
def tPar (i j : Nat) (ta : TA) : TS := fun D σ H => ta σ H fun vs H1 => ∃ v w, vs = [v, w] /\ D.nx ((σ.set i (some v)).set j (some w)) H1
theorem ps_par {i j : Nat} {x y : Str} {a b : Expr} {ta : TA} {px py pt : Pos} {kt k2 pt2} (hc : X.calm = true) (hN : X.N.Nodup) (hi : X.N[i]? = some x) (hj : X.N[j]? = some y) (hij : i ≠ j)
    (hx : X.env.scope.names.lookup x = some .local) (hy : X.env.scope.names.lookup y = some .local) (ha : PA X [a, b] ta)
    (hw : swappedStores [.Tuple [.Name x px, .Name y py] kt pt] (.Tuple [a, b] k2 pt2) X.env = pure (some [x, y]))
    (hs : swapsWithSole [.Tuple [.Name x px, .Name y py] kt pt] (.Tuple [a, b] k2 pt2) pos.line X.env = pure false := by rfl) :
    PS X (.Assign [.Tuple [.Name x px, .Name y py] kt pt] (.Tuple [a, b] k2 pt2) pos) (tPar i j ta) := by
  intro pins s σ H D I h
  rw [exec_Assign_arm]
  refine wpAny_bind (wpAny_standAt ?_)
  rw [hs]
  refine wpAny_bind (wpAny_pure ?_)
  rw [if_neg (by decide)]
  refine wpAny_bind (Tuple_ (thn (ha _ pins s σ H _ I h) fun us s1 ⟨vs, H1, I1, r1, q1⟩ => ?_))
  obtain ⟨v, w, e1, q1⟩ := q1
  subst e1
  obtain ⟨u1, u2, rfl, rv, rw'⟩ : ∃ u1 u2, us = [u1, u2] /\ RelV v u1 /\ RelV w u2 := by
    cases r1 with
    | cons p q =>
      cases q with
      | cons p' q' =>
        cases q'
        exact ⟨_, _, rfl, p, p'⟩
  refine wpAny_newObj_type ?_ (by show 2 <= sizeLine; decide)
  have I2 : Inv X pins σ H1 { s1 with heap := s1.heap.push { cls := .type "tuple", data := .seq [u1, u2].toArray } } := I1.kept (t' := s1.toks) fun b o e => Heap.get?_push_of_some _ e
  rw [hw]
  refine wpAny_bind (wpAny_pure ?_)
  show wpAny (model X.prog X.w) X.A (do rule "assign.swapped-stores"; let items <- unpackItems (.ref s1.heap.objs.size) 2 none; assignInOrder [fun v => bindName X.env y v, fun v => bindName X.env x v] items.reverse; pure Flow.next) _ _ _
  refine wpAny_bind (wpAny_rule (wpAny_bind (unpackItems_tuple (items := #[u1, u2]) (I.ok.hd hc) (IsTup.new s1.heap _) fun h' hx' => ?_)))
  have I3 := I2.kept (h' := h') (t' := s1.toks) fun b o e => hx' b o (Nat.ne_of_lt (Heap.lt_size e)) e
  show wpAny _ _ (assignInOrder [fun v => bindName X.env y v, fun v => bindName X.env x v] [u2, u1] >>= fun _ => pure Flow.next) _ _ _
  refine wpAny_bind (assignInOrder_cons (wpAny_bindName (store_ok I3 hN hj (.inl hy) rw' (fun s2 I4 => ?_) (.inr hy))))
  refine assignInOrder_cons (wpAny_bindName (store_ok I4 hN hi (.inl hx) rv (fun s3 I5 => assignInOrder_nil (wpAny_pure ?_)) (.inr hx)))
  rw [List.set_comm _ _ (Ne.symm hij)] at I5
  exact ⟨_, H1, I5, q1⟩
end
section
variable {X : Cx} {pos : Pos}
def tWhile (c : TT) (tb : TS) : TS := fun D σ H => ∃ W : Nat -> St -> Hp -> Prop, (∃ m, W m σ H) /\ ∀ m σ H, W m σ H ->
  c σ H fun b H1 => if b = true then ∃ N : St -> Hp -> Prop, (∀ σ' H', N σ' H' -> ∃ m', m' < m /\ W m' σ' H') /\ tb { D with nx := N, ct := N, bk := D.nx } σ H1 else D.nx σ H1
theorem ps_while {c : Expr} {body : List Stmt} {tc : TT} {tb : TS} (hp : PassesOwn (model X.prog X.w) X.A X.env X.xe) (hc : PT X c tc) (hb : PSs X body tb) : PS X (.While c body [] pos) (tWhile tc tb) := by
  intro pins s σ H D I h
  obtain ⟨W, ⟨m0, w0⟩, turn⟩ := h
  refine wpAny_While (codeAny_whileLoop (fun n s' => ∃ σ' H', Inv X pins σ' H' s' /\ W n σ' H') ?_ m0 ⟨σ, H, I, w0⟩)
  rintro n s1 ⟨σ1, H1, I1, w1⟩
  refine wpAny_passesOwn hp (thn (hc pins s1 σ1 H1 _ I1 (turn n σ1 H1 w1)) fun b s2 ⟨H2, I2, q2⟩ => ?_)
  cases b with
  | true =>
    obtain ⟨N, hN, q2⟩ := q2
    rw [if_pos rfl]
    refine wpAny_passesOwn hp (thn (hb pins s2 σ1 H2 _ I2 q2) fun f s3 q3 => ?_)
    cases f with
    | next =>
      obtain ⟨σ3, H3, I3, n3⟩ := q3
      obtain ⟨m', hm, w3⟩ := hN σ3 H3 n3
      exact ⟨m', hm, σ3, H3, I3, w3⟩
    | cont =>
      obtain ⟨σ3, H3, I3, n3⟩ := q3
      obtain ⟨m', hm, w3⟩ := hN σ3 H3 n3
      exact ⟨m', hm, σ3, H3, I3, w3⟩
    | brk => exact q3
    | ret v => exact q3
  | false =>
    rw [if_neg Bool.false_ne_true]
    exact wpAny_execs_nil ⟨σ1, H2, I2, q2⟩
end
structure It where
  go : Nat -> Hp -> Prop
  yld : Nat -> Hp -> V -> Hp -> Prop
  stop : Nat -> Hp -> Prop
def FpOk (X : Cx) (pins : List (Addr × Obj)) (H : Hp) (b : Addr) : Prop :=
  H b = none /\ b ≠ X.env.locals /\ b ∉ X.fs /\ (b ∈ X.ex ∨ X.s₀.heap.objs.size <= b) /\ (∀ x c, X.env.cells.lookup x = some c -> c ≠ b) /\ ∀ p ∈ X.pn ++ pins, p.1 ≠ b
theorem Inv.fpOk {X : Cx} {pins : List (Addr × Obj)} {σ : St} {H H' : Hp} {s : Shared} {b : Addr} (I : Inv X pins σ H s) (hb : s.heap.objs.size <= b) (hn : H' b = none) : FpOk X pins H' b := by
  refine ⟨hn, Nat.ne_of_gt (Nat.lt_of_lt_of_le I.lt hb), I.nofs hb, .inr (Nat.le_trans I.sz hb), fun x c e z => ?_, fun p hp z => ?_⟩
  · obtain ⟨v, q⟩ := I.cell x c e
    exact absurd (Nat.lt_of_lt_of_le q.lt (by rw [z]; exact hb)) (Nat.lt_irrefl _)
  · exact absurd (Nat.lt_of_lt_of_le (Heap.lt_size (I.pin p hp).1) (by rw [z]; exact hb)) (Nat.lt_irrefl _)
structure Turn (P : Program) (w : World) (K : PySem.W.Frag) (tg : Expr) (J : It) (fp : List Addr) (it : Addr) (tn : Nat -> Heap -> Prop) : Prop where
  mem : it ∈ fp
  obj : ∀ i h, tn i h -> ∀ b ∈ fp, ∃ o, h.get? b = some o /\ ∀ v, o.data ≠ .cell v
  keep : ∀ i h h', tn i h -> (∀ b ∈ fp, ∀ o, h.get? b = some o -> h'.get? b = some o) -> tn i h'
  item : ∀ (X : Cx), X.prog = P -> X.w = w -> X.K = K -> X.calm = true -> ∀ (i : Nat) (pins : List (Addr × Obj)) (s : Shared) (σ : St) (H : Hp) (E : Value -> Shared -> Prop), Inv X pins σ H s -> (∀ b ∈ fp, FpOk X pins H b) -> tn i s.heap -> J.go i H ->
    wpAny (model P w) X.A (pyNext (.ref it)) (fun r s1 => ∃ u, r = some u /\
      wpAny (model P w) X.A (letOwnedTupleGo tg (.ref it) u) (fun _ s2 => ∃ x H', Inv X pins σ H' s2 /\ RelV x u /\ J.yld i H x H' /\ tn (i + 1) s2.heap /\ ∀ b ∈ fp, H' b = none) E s1) E s
  done : ∀ (X : Cx), X.prog = P -> X.w = w -> X.K = K -> X.calm = true -> ∀ (i : Nat) (pins : List (Addr × Obj)) (s : Shared) (σ : St) (H : Hp) (E : Value -> Shared -> Prop), Inv X pins σ H s -> (∀ b ∈ fp, FpOk X pins H b) -> tn i s.heap -> J.stop i H ->
    wpAny (model P w) X.A (pyNext (.ref it)) (fun r s1 => r = none /\ Inv X pins σ H s1) E s
  self : ∀ (A : Around) (i : Nat) (s : Shared) (Q : Value -> Shared -> Prop) (E : Value -> Shared -> Prop), tn i s.heap -> Q (.ref it) s -> wpAny (model P w) A (pyIter (.ref it)) Q E s
abbrev TI := St -> Hp -> (It -> Hp -> Prop) -> Prop
def PIE (X : Cx) (pins : List (Addr × Obj)) (σ : St) (tg : Expr) (R : It -> Hp -> Prop) (itv : Value) (s2 : Shared) : Prop :=
  ∃ (it : Addr) (fp : List Addr) (tn : Nat -> Heap -> Prop) (J : It) (H' : Hp), itv = .ref it /\ Inv X pins σ H' s2 /\ Turn X.prog X.w X.K tg J fp it tn /\ tn 0 s2.heap /\ (∀ b ∈ fp, FpOk X pins H' b) /\ R J H'
def PI (X : Cx) (tg iter : Expr) (wi : TI) : Prop :=
  ∀ (pins : List (Addr × Obj)) (s : Shared) (σ : St) (H : Hp) (R : It -> Hp -> Prop), Inv X pins σ H s -> wi σ H R ->
    wpAny (model X.prog X.w) X.A (eval iter X.env) (fun v s1 => wpAny (model X.prog X.w) X.A (pyIter v) (PIE X pins σ tg R) X.xe s1) X.xe s
theorem go_of {M : Model} {A : Around} {E : Value -> Shared -> Prop} {s : Shared} {tg : Expr} {it : Addr} {u : Value} {o : Obj} {n : String} {vs : Array Value} {Q : Unit -> Shared -> Prop} (ho : s.heap.get? it = some o) (hc : o.cls = .type n) (hd : o.data = .fields vs)
    (hn : ["enumerate", "zip", "dict_itemiterator", "dict_reverseitemiterator", "odict_iterator", "itertools.zip_longest", "itertools.pairwise"].contains n = false) (hQ : Q () s) : wpAny M A (letOwnedTupleGo tg (.ref it) u) Q E s := by
  unfold letOwnedTupleGo
  cases tg <;> first
    | exact wpAny_pure hQ
    | (cases u <;> first
        | exact wpAny_pure hQ
        | (refine wpAny_bind (wpAny_load ho ?_)
           rw [hc, hd]
           show wpAny M A (if (["enumerate", "zip", "dict_itemiterator", "dict_reverseitemiterator", "odict_iterator", "itertools.zip_longest", "itertools.pairwise"].contains n && vs[0]? == some (rawInt _)) = true then _ else _) Q E s
           rw [if_neg (by intro h; rw [hn, Bool.false_and] at h; cases h)]
           exact wpAny_pure hQ))
def Itl (K : PySem.W.Frag) (a : Addr) : It :=
  ⟨fun i H => ∃ xs x, SqL K H a xs /\ xs[i]? = some x, fun i H x H' => H' = H /\ ∀ xs, SqL K H a xs -> xs[i]? = some x, fun i H => ∃ xs, SqL K H a xs /\ xs.length <= i⟩
def Itt (K : PySem.W.Frag) (a : Addr) : It :=
  ⟨fun i H => ∃ xs x, SqT K H a xs /\ xs[i]? = some x, fun i H x H' => H' = H /\ ∀ xs, SqT K H a xs -> xs[i]? = some x, fun i H => ∃ xs, SqT K H a xs /\ xs.length <= i⟩
def Itr (lo : Int) (n : Nat) : It := ⟨fun i _ => i < n, fun i H x H' => H' = H /\ x = .int (lo + i), fun i _ => n <= i⟩
theorem turn_list {P : Program} {w : World} {K : PySem.W.Frag} {tg : Expr} (a it : Addr) : Turn P w K tg (Itl K a) [it] it (fun i h => h.IsListIter it a i) where
  mem := by simp
  obj := fun i h st b hb => by
    have e : b = it := by simpa using hb
    subst e
    obtain ⟨o, e, c, d⟩ := st
    exact ⟨o, e, fun v z => by rw [d] at z; cases z⟩
  keep := fun i h h' st k => st.at fun o e => k it (by simp) o e
  item := by
    intro X hP hw hK hc i pins s σ H E I hf st hg
    subst hP hw hK
    obtain ⟨xs, x, hq, hx⟩ := hg
    obtain ⟨its, rv, p, hz⟩ := I.list hq
    obtain ⟨u, hu, ru⟩ := rv.get hx
    obtain ⟨f0, f1, f2, f3, f4, f5⟩ := hf it (by simp)
    refine wpAny_pyNext_list_item st p.isList (x := u) (by simpa using hu) fun h' st' sb => ?_
    have I1 : Inv X pins σ H { s with heap := h' } := I.turned (t' := s.toks) (fun b o hb e => (sb.2 b hb).trans e) f0 f1 f3 f4 f5
    obtain ⟨o, e, c, d⟩ := id st'
    exact ⟨u, rfl, go_of (s := { s with heap := h' }) e c d (by decide) ⟨x, H, I1, ru, ⟨rfl, fun ys hy => by rw [I.list_inj hy hq]; exact hx⟩, st', fun b hb => (hf b hb).1⟩⟩
  done := by
    intro X hP hw hK hc i pins s σ H E I hf st hg
    subst hP hw hK
    obtain ⟨xs, hq, hx⟩ := hg
    obtain ⟨its, rv, p, hz⟩ := I.list hq
    obtain ⟨f0, f1, f2, f3, f4, f5⟩ := hf it (by simp)
    have hl := rv.length
    exact wpAny_pyNext_list_end (I.ok.hd hc) st p.isList (by simp; omega) fun h' eb => ⟨rfl, I.turned (t' := s.toks) (fun b o hb e => eb b o hb e) f0 f1 f3 f4 f5⟩
  self := fun _ _ _ _ _ st h => wpAny_pyIter_listiter st h
theorem turn_tuple {P : Program} {w : World} {K : PySem.W.Frag} {tg : Expr} (a it : Addr) : Turn P w K tg (Itt K a) [it] it (fun i h => h.IsTupleIter it a i) where
  mem := by simp
  obj := fun i h st b hb => by
    have e : b = it := by simpa using hb
    subst e
    obtain ⟨o, e, c, d⟩ := st
    exact ⟨o, e, fun v z => by rw [d] at z; cases z⟩
  keep := fun i h h' st k => st.at fun o e => k it (by simp) o e
  item := by
    intro X hP hw hK hc i pins s σ H E I hf st hg
    subst hP hw hK
    obtain ⟨xs, x, hq, hx⟩ := hg
    obtain ⟨its, rv, p, hz⟩ := I.tuple hq
    obtain ⟨u, hu, ru⟩ := rv.get hx
    obtain ⟨f0, f1, f2, f3, f4, f5⟩ := hf it (by simp)
    refine wpAny_pyNext_tuple_item st (show s.heap.IsTuple a its.toArray from p) (x := u) (by simpa using hu) fun h' st' sb => ?_
    have I1 : Inv X pins σ H { s with heap := h' } := I.turned (t' := s.toks) (fun b o hb e => (sb.2 b hb).trans e) f0 f1 f3 f4 f5
    obtain ⟨o, e, c, d⟩ := id st'
    exact ⟨u, rfl, go_of (s := { s with heap := h' }) e c d (by decide) ⟨x, H, I1, ru, ⟨rfl, fun ys hy => by rw [I.tuple_inj hy hq]; exact hx⟩, st', fun b hb => (hf b hb).1⟩⟩
  done := by
    intro X hP hw hK hc i pins s σ H E I hf st hg
    subst hP hw hK
    obtain ⟨xs, hq, hx⟩ := hg
    obtain ⟨its, rv, p, hz⟩ := I.tuple hq
    obtain ⟨f0, f1, f2, f3, f4, f5⟩ := hf it (by simp)
    have hl := rv.length
    exact wpAny_pyNext_tuple_end (I.ok.hd hc) st (show s.heap.IsTuple a its.toArray from p) (by simp; omega) fun h' eb => ⟨rfl, I.turned (t' := s.toks) (fun b o hb e => eb b o hb e) f0 f1 f3 f4 f5⟩
  self := fun _ _ _ _ _ st h => wpAny_pyIter_tupleiter st h
theorem turn_range {P : Program} {w : World} {K : PySem.W.Frag} {tg : Expr} (it : Addr) (lo : Int) (n : Nat) : Turn P w K tg (Itr lo n) [it] it (fun i h => IsRangeIter h it (lo + (i : Nat) * 1) ((n : Int) - (i : Nat)) 1) where
  mem := by simp
  obj := fun i h st b hb => by
    have e : b = it := by simpa using hb
    subst e
    exact ⟨_, st, fun v z => by
      have z' : Data.fields _ = Data.cell v := z
      cases z'⟩
  keep := fun i h h' st k => k it (by simp) _ st
  item := by
    intro X hP hw hK hc i pins s σ H E I hf st hg
    subst hP hw hK
    obtain ⟨f0, f1, f2, f3, f4, f5⟩ := hf it (by simp)
    have W := Walks.range (prog := X.prog) (w := X.w) (I.ok.hd hc) it lo 1 n
    refine W.item i s _ _ hg st fun v h' tk hv st' kk => ?_
    obtain ⟨t, rfl⟩ := hv
    have I1 : Inv X pins σ H { s with heap := h', toks := tk } := I.turned (fun b o hb e => kk b o (by simpa using hb) e) f0 f1 f3 f4 f5
    refine ⟨_, rfl, go_of (s := { s with heap := h', toks := tk }) (n := "range_iterator") st' rfl rfl (by decide) ⟨.int (lo + i), H, I1, ⟨t, ?_⟩, ⟨rfl, rfl⟩, st', fun b hb => (hf b hb).1⟩⟩
    rw [Int.mul_one]
  done := by
    intro X hP hw hK hc i pins s σ H E I hf st hg
    subst hP hw hK
    obtain ⟨f0, f1, f2, f3, f4, f5⟩ := hf it (by simp)
    exact wpAny_pyNext_range_end (I.ok.hd hc) st (by have : n <= i := hg; omega) fun h' eb => ⟨rfl, I.turned (t' := s.toks) (fun b o hb e => eb b o hb e) f0 f1 f3 f4 f5⟩
  self := fun _ _ _ _ _ st h => wpAny_pyIter_rangeiter st h
end L2
namespace L2
open PySem PySem.Spec PyProof.Rows
section
variable {X : Cx} {tg : Expr}
def iList (K : PySem.W.Frag) (tl : TE) : TI := fun σ H R => tl σ H fun x H1 => ∃ a, x = .ref a /\ (∃ xs, SqL K H1 a xs) /\ R (Itl K a) H1
def iTup (K : PySem.W.Frag) (tl : TE) : TI := fun σ H R => tl σ H fun x H1 => ∃ a, x = .ref a /\ (∃ xs, SqT K H1 a xs) /\ R (Itt K a) H1
theorem pi_list {l : Expr} {tl : TE} (hl : PE X l tl) : PI X tg l (iList X.K tl) := by
  intro pins s σ H R I h
  refine thn (hl pins s σ H _ I h) fun v s1 ⟨x, H1, I1, r1, q1⟩ => ?_
  obtain ⟨a, e, ⟨xs, hq⟩, q⟩ := q1
  subst e
  cases r1
  obtain ⟨its, rv, p, hz⟩ := I1.list hq
  refine wpAny_pyIter_list p.isList ?_
  refine ⟨s1.heap.objs.size, [s1.heap.objs.size], _, _, H1, rfl, I1.kept (t' := s1.toks) fun b o e => Heap.get?_push_of_some _ e, turn_list a _, ⟨_, Heap.get?_push_size _ rfl, rfl, rfl⟩, fun b hb => ?_, q⟩
  have e : b = s1.heap.objs.size := by simpa using hb
  subst e
  exact I1.fpOk (Nat.le_refl _) (I1.hok.fresh (Nat.le_refl _))
theorem pi_tup {l : Expr} {tl : TE} (hl : PE X l tl) : PI X tg l (iTup X.K tl) := by
  intro pins s σ H R I h
  refine thn (hl pins s σ H _ I h) fun v s1 ⟨x, H1, I1, r1, q1⟩ => ?_
  obtain ⟨a, e, ⟨xs, hq⟩, q⟩ := q1
  subst e
  cases r1
  obtain ⟨its, rv, p, hz⟩ := I1.tuple hq
  refine wpAny_pyIter_tuple (show s1.heap.IsTuple a its.toArray from p) ?_
  refine ⟨s1.heap.objs.size, [s1.heap.objs.size], _, _, H1, rfl, I1.kept (t' := s1.toks) fun b o e => Heap.get?_push_of_some _ e, turn_tuple a _, ⟨_, Heap.get?_push_size _ rfl, rfl, rfl⟩, fun b hb => ?_, q⟩
  have e : b = s1.heap.objs.size := by simpa using hb
  subst e
  exact I1.fpOk (Nat.le_refl _) (I1.hok.fresh (Nat.le_refl _))
theorem range_it {pins : List (Addr × Obj)} {σ : St} {H : Hp} {s : Shared} {R : It -> Hp -> Prop} {E : Value -> Shared -> Prop} {lo hi : Int} {t u v : Tok} {tk : Nat} (I : Inv X pins σ H s) (h1 : -(2 ^ 62) <= lo) (h2 : lo < 2 ^ 62) (h3 : -(2 ^ 62) <= hi) (h4 : hi < 2 ^ 62)
    (q : R (Itr lo (hi - lo).toNat) H) : wpAny (model X.prog X.w) X.A (pyIter (.ref s.heap.objs.size)) (PIE X pins σ tg R) E { s with heap := s.heap.push { cls := .type "range", data := .fields #[.int lo t, .int hi u, .int 1 v] }, toks := tk } := by
  refine wpAny_pyIter_range (IsRange.new ..) (small_one h1 h2 h3 h4) ?_
  have I1 : Inv X pins σ H { s with heap := s.heap.push { cls := .type "range", data := .fields #[.int lo t, .int hi u, .int 1 v] }, toks := tk } := I.kept fun b o e => Heap.get?_push_of_some _ e
  refine ⟨(s.heap.push { cls := .type "range", data := .fields #[.int lo t, .int hi u, .int 1 v] }).objs.size, [(s.heap.push { cls := .type "range", data := .fields #[.int lo t, .int hi u, .int 1 v] }).objs.size], _, _, H, rfl,
    I1.kept (t' := tk) fun b o e => Heap.get?_push_of_some _ e, turn_range _ lo (hi - lo).toNat, ?_, fun b hb => ?_, q⟩
  · have e1 : lo + ((0 : Nat) : Int) * 1 = lo := by simp
    have e2 : (((hi - lo).toNat : Nat) : Int) - ((0 : Nat) : Int) = Builtin.Range.rangeSize lo hi 1 := by rw [rangeSize_one]; split <;> omega
    show IsRangeIter _ _ (lo + ((0 : Nat) : Int) * 1) ((((hi - lo).toNat : Nat) : Int) - ((0 : Nat) : Int)) 1
    rw [e1, e2]
    exact Heap.get?_push_size _ rfl
  · have e : b = (s.heap.push { cls := .type "range", data := .fields #[.int lo t, .int hi u, .int 1 v] }).objs.size := by simpa using hb
    subst e
    exact I1.fpOk (Nat.le_refl _) (I1.hok.fresh (Nat.le_refl _))
def iRng1 (ta : TA) : TI := fun σ H R => ta σ H fun vs H1 => ∃ j : Int, vs = [.int j] /\ -(2 ^ 62) <= j /\ j < 2 ^ 62 /\ R (Itr 0 j.toNat) H1
theorem pi_range1 {a : Expr} {ta : TA} {p pos : Pos} (hg : Gl X "range") (hm : X.mg "range" = none) (ha : PA X [a] ta) (hs : starEach [a] X.env = [(false, eval a X.env)] := by rfl) : PI X tg (.Call (.Name "range" p) [a] [] pos) (iRng1 ta) := by
  intro pins s σ H R I h
  refine Call_ (ld_blt I hg hm boot_range (PyProof.Rows.callWith_type1 (thn (ha pos pins s σ H _ I h) fun us s1 ⟨vs, H1, I1, r1, q1⟩ => ?_) hs rfl))
  obtain ⟨j, e, q1, q2, q⟩ := q1
  subst e
  cases r1 with
  | cons r rr =>
    cases rr
    obtain ⟨t, rfl⟩ := r
    exact call_range_1 (range_it I1 (by omega) (by omega) q1 q2 (by simpa using q))
def tFor (wi : TI) (g : TG) (tb : TS) : TS := fun D σ H => wi σ H fun J H1 => ∃ W : Nat -> Nat -> St -> Hp -> Prop, (∃ m, W 0 m σ H1) /\ ∀ i m σ H, W i m σ H ->
  (J.stop i H /\ D.nx σ H) ∨ (J.go i H /\ ∃ N : St -> Hp -> Prop, (∀ σ' H', N σ' H' -> ∃ m', m' < m /\ W (i + 1) m' σ' H') /\ ∀ x H', J.yld i H x H' -> g x σ H' fun σ2 H2 => tb { D with nx := N, ct := N, bk := D.nx } σ2 H2)
def pinsAt (fp : List Addr) (h : Heap) : List (Addr × Obj) := fp.filterMap fun b => (h.get? b).map fun o => (b, o)
theorem mem_pinsAt {fp : List Addr} {h : Heap} {b : Addr} {o : Obj} (hb : b ∈ fp) (e : h.get? b = some o) : (b, o) ∈ pinsAt fp h := List.mem_filterMap.mpr ⟨b, hb, by rw [e]; rfl⟩
theorem of_pinsAt {fp : List Addr} {h : Heap} {p : Addr × Obj} (hp : p ∈ pinsAt fp h) : p.1 ∈ fp /\ h.get? p.1 = some p.2 := by
  obtain ⟨b, hb, e⟩ := List.mem_filterMap.mp hp
  cases q : h.get? b with
  | none => rw [q] at e; cases e
  | some o =>
    rw [q] at e
    have e' : (b, o) = p := Option.some.inj e
    subst e'
    exact ⟨hb, q⟩
theorem Inv.pinned {pins : List (Addr × Obj)} {σ : St} {H : Hp} {s : Shared} {fp : List Addr} (I : Inv X pins σ H s) (hf : ∀ b ∈ fp, FpOk X pins H b) (ho : ∀ b ∈ fp, ∃ o, s.heap.get? b = some o /\ ∀ v, o.data ≠ .cell v) : Inv X (pins ++ pinsAt fp s.heap) σ H s :=
  I.pins_of fun p hp => (List.mem_append.mp hp).elim (fun z => I.pin p (List.mem_append_right _ z)) fun z => by
    obtain ⟨hb, e⟩ := of_pinsAt z
    obtain ⟨f0, f1, f2, _⟩ := hf p.1 hb
    obtain ⟨o, e', d⟩ := ho p.1 hb
    rw [e] at e'; cases e'
    exact ⟨e, f0, f1, f2, d⟩
theorem Inv.unpinned {pins pl : List (Addr × Obj)} {σ : St} {H : Hp} {s : Shared} (I : Inv X (pins ++ pl) σ H s) : Inv X pins σ H s := I.pins_of fun p hp => I.pin p (List.mem_append_right _ (List.mem_append_left _ hp))
theorem ps_for {iter : Expr} {body : List Stmt} {wi : TI} {g : TG} {tb : TS} {pos : Pos} (hp : PassesOwn (model X.prog X.w) X.A X.env X.xe) (hc : X.calm = true) (hi : PI X tg iter wi) (hg : PG X tg g) (hb : PSs X body tb)
    (hs : ∀ x, foldedSetIterable iter X.env x = pure x := by intro _; rfl) : PS X (.For tg iter body [] pos) (tFor wi g tb) := by
  intro pins s σ H D I h
  refine wpAny_For (thn (hi pins s σ H _ I h) fun v s1 h1 => thn h1 fun itv s2 h2 => ?_) hs
  obtain ⟨it, fp, tn, J, H2, e, I2, T, st2, f2, W, ⟨m0, w0⟩, turn⟩ := h2
  subst e
  -- what stays true of the iterator's objects through the loop
  have stat : ∀ {H' : Hp}, (∀ b ∈ fp, H' b = none) -> ∀ b ∈ fp, FpOk X pins H' b := fun hn b hb => ⟨hn b hb, (f2 b hb).2⟩
  refine codeAny_forLoop_any (fun n s' => ∃ i σ' H', Inv X pins σ' H' s' /\ tn i s'.heap /\ (∀ b ∈ fp, H' b = none) /\ W i n σ' H') ?_ m0 ⟨0, σ, H2, I2, st2, fun b hb => (f2 b hb).1, w0⟩
  rintro n s3 ⟨i, σ3, H3, I3, st3, fr3, w3⟩
  rcases turn i n σ3 H3 w3 with ⟨stop, qn⟩ | ⟨go, N, hN, step⟩
  · refine wpAny_passesOwn hp (thn (T.done X rfl rfl rfl hc i pins s3 σ3 H3 X.xe I3 (stat fr3) st3 stop) fun r s4 ⟨hr, I4⟩ => ?_)
    subst hr
    exact wpAny_execs_nil ⟨σ3, H3, I4, qn⟩
  · refine wpAny_passesOwn hp (thn (T.item X rfl rfl rfl hc i pins s3 σ3 H3 X.xe I3 (stat fr3) st3 go) fun r s4 ⟨u, hr, h4⟩ => ?_)
    subst hr
    refine wpAny_passesOwn hp (thn h4 fun _ s5 ⟨x, H5, I5, r5, y5, st5, fr5⟩ => ?_)
    have I5' := I5.pinned (stat fr5) (T.obj _ _ st5)
    refine wpAny_passesOwn hp (thn (hg _ s5 σ3 H5 x u _ I5' r5 (step x H5 y5)) fun _ s6 ⟨σ6, H6, I6, q6⟩ => ?_)
    refine wpAny_passesOwn hp (thn (hb _ s6 σ6 H6 _ I6 q6) fun f s7 q7 => ?_)
    have again : ∀ {σ7 : St} {H7 : Hp}, Inv X (pins ++ pinsAt fp s5.heap) σ7 H7 s7 -> N σ7 H7 -> ∃ m, m < n /\ ∃ i σ' H', Inv X pins σ' H' s7 /\ tn i s7.heap /\ (∀ b ∈ fp, H' b = none) /\ W i m σ' H' := fun {σ7 H7} I7 n7 => by
      obtain ⟨m', hm, w7⟩ := hN σ7 H7 n7
      refine ⟨m', hm, i + 1, σ7, H7, I7.unpinned, T.keep _ _ _ st5 fun b hb o e => (I7.pin (b, o) (List.mem_append_right _ (List.mem_append_right _ (mem_pinsAt hb e)))).1, fun b hb => ?_, w7⟩
      obtain ⟨o, e, d⟩ := T.obj _ _ st5 b hb
      exact (I7.pin (b, o) (List.mem_append_right _ (List.mem_append_right _ (mem_pinsAt hb e)))).2.1
    cases f with
    | next => obtain ⟨σ7, H7, I7, n7⟩ := q7; exact again I7 n7
    | cont => obtain ⟨σ7, H7, I7, n7⟩ := q7; exact again I7 n7
    | brk => obtain ⟨σ7, H7, I7, q7⟩ := q7; exact ⟨σ7, H7, I7.unpinned, q7⟩
    | ret v => obtain ⟨x7, σ7, H7, I7, r7, q7⟩ := q7; exact ⟨x7, σ7, H7, I7.unpinned, r7, q7⟩
end
end L2
namespace L2
open PySem PySem.Spec PyProof.Rows
abbrev R2 := V -> V -> Hp -> VK -> Prop
def OpR (X : Cx) (f : Value -> Value -> Sem Value) (r : R2) : Prop :=
  ∀ (pins : List (Addr × Obj)) (s : Shared) (σ : St) (H : Hp) (x y : V) (v u : Value) (Q : VK), Inv X pins σ H s -> RelV x v -> RelV y u -> r x y H Q ->
    wpAny (model X.prog X.w) X.A (f v u) (EP X pins σ Q) X.xe s
def UnR (X : Cx) (f : Value -> Sem Value) (r : V -> Hp -> VK -> Prop) : Prop :=
  ∀ (pins : List (Addr × Obj)) (s : Shared) (σ : St) (H : Hp) (x : V) (v : Value) (Q : VK), Inv X pins σ H s -> RelV x v -> r x H Q ->
    wpAny (model X.prog X.w) X.A (f v) (EP X pins σ Q) X.xe s
def CallR (X : Cx) (f : Value) (r : List V -> Hp -> VK -> Prop) : Prop :=
  ∀ (pins : List (Addr × Obj)) (s : Shared) (σ : St) (H : Hp) (xs : List V) (us : List Value) (Q : VK), Inv X pins σ H s -> Vals xs us -> r xs H Q ->
    wpAny (model X.prog X.w) X.A (call f us) (EP X pins σ Q) X.xe s
def TruR (X : Cx) (r : V -> Hp -> (Bool -> Hp -> Prop) -> Prop) : Prop :=
  ∀ (pins : List (Addr × Obj)) (s : Shared) (σ : St) (H : Hp) (x : V) (v : Value) (Q : Bool -> Hp -> Prop), Inv X pins σ H s -> RelV x v -> r x H Q ->
    wpAny (model X.prog X.w) X.A (truthy v) (TP X pins σ Q) X.xe s
def tOp (r : R2) (ta tb : TE) : TE := fun σ H Q => ta σ H fun x H1 => tb σ H1 fun y H2 => r x y H2 Q
def tUn (r : V -> Hp -> VK -> Prop) (ta : TE) : TE := fun σ H Q => ta σ H fun x H1 => r x H1 Q
def rI (C : Int -> Int -> Prop) (g : Int -> Int -> V) : R2 := fun x y H Q => ∃ i j, x = .int i /\ y = .int j /\ C i j /\ Q (g i j) H
def rI0 (g : Int -> Int -> V) : R2 := fun x y H Q => ∃ i j, x = .int i /\ y = .int j /\ Q (g i j) H
def rU (g : Int -> V) : V -> Hp -> VK -> Prop := fun x H Q => ∃ i, x = .int i /\ Q (g i) H
section
variable {X : Cx} {a b c : Expr} {ta tb tc : TE} {pos : Pos}
theorem binT (ha : PE X a ta) (hb : PE X b tb) {pins : List (Addr × Obj)} {s : Shared} {σ : St} {H : Hp} {R : V -> V -> Hp -> Prop} (I : Inv X pins σ H s)
    (h : ta σ H fun x H1 => tb σ H1 fun y H2 => R x y H2) {Q : Value -> Shared -> Prop} {f : Value -> Value -> Sem Value}
    (hf : ∀ v u s2 x y H2, Inv X pins σ H2 s2 -> RelV x v -> RelV y u -> R x y H2 -> wpAny (model X.prog X.w) X.A (f v u) Q X.xe s2) :
    wpAny (model X.prog X.w) X.A (eval a X.env) (fun v s₁ => wpAny (model X.prog X.w) X.A (eval b X.env) (fun u s₂ => wpAny (model X.prog X.w) X.A (f v u) Q X.xe s₂) X.xe s₁) X.xe s := by
  refine thn (ha pins s σ H _ I h) fun v s1 ⟨x, H1, I1, r1, q1⟩ => ?_
  refine thn (hb pins s1 σ H1 _ I1 q1) fun u s2 ⟨y, H2, I2, r2, q2⟩ => ?_
  exact hf v u s2 x y H2 I2 r1 r2 q2
theorem pe_op {op : Operator} {r : R2} (ho : OpR X (binaryOp op) r) (ha : PE X a ta) (hb : PE X b tb) : PE X (.BinOp a op b pos) (tOp r ta tb) := by
  intro pins s σ H Q I h
  exact wpAny_BinOp (binT ha hb I h fun v u s2 x y H2 I2 rx ry q => ho pins s2 σ H2 x y v u Q I2 rx ry q)
theorem pe_un {op : UnaryOp} {r : V -> Hp -> VK -> Prop} (ho : UnR X (unaryOp op) r) (ha : PE X a ta) : PE X (.UnaryOp op a pos) (tUn r ta) := by
  intro pins s σ H Q I h
  exact UnaryOp_ (thn (ha pins s σ H _ I h) fun v s1 ⟨x, H1, I1, r1, q1⟩ => ho pins s1 σ H1 x v Q I1 r1 q1)
theorem opI {f : Value -> Value -> Sem Value} {C : Int -> Int -> Prop} {g : Int -> Int -> Int}
    (rule : ∀ (i j : Int) (t u : Tok) (s : Shared) (Q : Value -> Shared -> Prop) (E : Value -> Shared -> Prop), C i j -> Q (.int (g i j) s.toks) { s with toks := s.toks + 1 } -> wpAny (model X.prog X.w) X.A (f (.int i t) (.int j u)) Q E s) :
    OpR X f (rI C fun i j => .int (g i j)) := by
  intro pins s σ H x y v u Q I rx ry h
  obtain ⟨i, j, rfl, rfl, hc, q⟩ := h
  obtain ⟨t, rfl⟩ := rx
  obtain ⟨t', rfl⟩ := ry
  exact rule i j t t' s _ _ hc ⟨.int (g i j), H, I.tok _, ⟨_, rfl⟩, q⟩
theorem opI0 {f : Value -> Value -> Sem Value} {g : Int -> Int -> Int}
    (rule : ∀ (i j : Int) (t u : Tok) (s : Shared) (Q : Value -> Shared -> Prop) (E : Value -> Shared -> Prop), Q (.int (g i j) s.toks) { s with toks := s.toks + 1 } -> wpAny (model X.prog X.w) X.A (f (.int i t) (.int j u)) Q E s) :
    OpR X f (rI0 fun i j => .int (g i j)) := by
  intro pins s σ H x y v u Q I rx ry h
  obtain ⟨i, j, rfl, rfl, q⟩ := h
  obtain ⟨t, rfl⟩ := rx
  obtain ⟨t', rfl⟩ := ry
  exact rule i j t t' s _ _ ⟨.int (g i j), H, I.tok _, ⟨_, rfl⟩, q⟩
theorem opB0 {f : Value -> Value -> Sem Value} {g : Int -> Int -> Bool}
    (rule : ∀ (i j : Int) (t u : Tok) (s : Shared) (Q : Value -> Shared -> Prop) (E : Value -> Shared -> Prop), Q (.bool (g i j)) s -> wpAny (model X.prog X.w) X.A (f (.int i t) (.int j u)) Q E s) :
    OpR X f (rI0 fun i j => .bl (g i j)) := by
  intro pins s σ H x y v u Q I rx ry h
  obtain ⟨i, j, rfl, rfl, q⟩ := h
  obtain ⟨t, rfl⟩ := rx
  obtain ⟨t', rfl⟩ := ry
  exact rule i j t t' s _ _ ⟨.bl (g i j), H, I, rfl, q⟩
def CDiv (i j : Int) : Prop := 0 < j /\ j < 1073741824
def CPow (i j : Int) : Prop := 0 <= j /\ j <= 1000000 /\ i.natAbs < 2 ^ 64
def CMul (i j : Int) : Prop := (-(2 ^ 64) < i /\ i < 2 ^ 64) ∨ (-(2 ^ 64) < j /\ j < 2 ^ 64)
theorem CMul.ok {i j : Int} (h : CMul i j) : IntMulOk i j := by
  rcases h with ⟨h1, h2⟩ | ⟨h1, h2⟩
  · exact .of_left (intBits_le_64 h1 h2)
  · exact .of_right (intBits_le_64 h1 h2)
theorem op_add : OpR X (binaryOp .Add) (rI0 fun i j => .int (i + j)) := opI0 fun _ _ _ _ _ _ _ q => add_int q
theorem op_sub : OpR X (binaryOp .Sub) (rI0 fun i j => .int (i - j)) := opI0 fun _ _ _ _ _ _ _ q => sub_int q
theorem op_mul : OpR X (binaryOp .Mult) (rI CMul fun i j => .int (i * j)) := opI fun _ _ _ _ _ _ _ hc q => mul_int q hc.ok
theorem op_fdiv : OpR X (binaryOp .FloorDiv) (rI CDiv fun i j => .int (i / j)) := opI fun i j _ _ _ _ _ hc q => by
  have h1 : (0 : Int) < j := hc.1
  have h2 : j < 1073741824 := hc.2
  exact floordiv_int (by omega) (by rw [Int.fdiv_eq_ediv_of_nonneg i (by omega)]; exact q) (.inl (PyProof.noPylong_small (by omega)))
theorem op_mod : OpR X (binaryOp .Mod) (rI (fun _ j => 0 < j) fun i j => .int (i % j)) := opI fun i j _ _ _ _ _ hc q => by
  have h1 : (0 : Int) < j := hc
  exact mod_int' (by omega) (by rw [Int.fmod_eq_emod_of_nonneg i (by omega)]; exact q)
theorem op_pow : OpR X (binaryOp .Pow) (rI CPow fun i j => .int (i ^ j.toNat)) := opI fun _ _ _ _ _ _ _ hc q => pow_int_small hc.1 hc.2.1 hc.2.2 q
theorem unI {f : Value -> Sem Value} {g : Int -> Int}
    (rule : ∀ (i : Int) (t : Tok) (s : Shared) (Q : Value -> Shared -> Prop) (E : Value -> Shared -> Prop), Q (.int (g i) s.toks) { s with toks := s.toks + 1 } -> wpAny (model X.prog X.w) X.A (f (.int i t)) Q E s) :
    UnR X f (rU fun i => .int (g i)) := by
  intro pins s σ H x v Q I rx h
  obtain ⟨i, rfl, q⟩ := h
  obtain ⟨t, rfl⟩ := rx
  exact rule i t s _ _ ⟨.int (g i), H, I.tok _, ⟨_, rfl⟩, q⟩
theorem un_neg : UnR X (unaryOp .USub) (rU fun i => .int (-i)) := unI fun _ _ _ _ _ q => neg_int q
end
def scal : V -> V -> Bool
  | .non, .non => true | .non, .int _ => true | .int _, .non => true | .non, .bl _ => true | .bl _, .non => true | .non, .str _ => true | .str _, .non => true
  | .int _, .int _ => true | .bl _, .bl _ => true | .str _, .str _ => true | .byt _, .byt _ => true
  | .int _, .str _ => true | .str _, .int _ => true | .bl _, .str _ => true | .str _, .bl _ => true
  | _, _ => false
def rEq : R2 := fun x y H Q => scal x y = true /\ Q (.bl (decide (x = y))) H
def rNe : R2 := fun x y H Q => scal x y = true /\ Q (.bl (!decide (x = y))) H
theorem dec_int {i j : Int} : decide (V.int i = V.int j) = (i == j) := by
  rw [Bool.eq_iff_iff]
  simp
theorem dec_bl {i j : Bool} : decide (V.bl i = V.bl j) = (i == j) := by
  rw [Bool.eq_iff_iff]
  simp
theorem dec_str {i j : Str} : decide (V.str i = V.str j) = (i == j) := by
  rw [Bool.eq_iff_iff]
  simp
theorem dec_byt {i j : Array UInt8} : decide (V.byt i = V.byt j) = (i.toList == j.toList) := by
  rw [Bool.eq_iff_iff]
  cases i
  cases j
  simp
section
variable {X : Cx} {a b c : Expr} {ta tb tc : TE} {pos : Pos}
theorem fin_bl {pins : List (Addr × Obj)} {σ : St} {H : Hp} {s : Shared} {Q : VK} {k k' : Bool} (I : Inv X pins σ H s) (q : Q (.bl k) H) (e : k = k') : EP X pins σ Q (.bool k') s := by
  subst e
  exact ⟨.bl k, H, I, rfl, q⟩
theorem op_eq : OpR X (compareOp .Eq) rEq := by
  intro pins s σ H x y v u Q I rx ry h
  obtain ⟨hs, q⟩ := h
  cases x with
  | non =>
    cases rx
    cases y with
    | non => cases ry; exact PySem.EqNone.eq_none_none (fin_bl I q (by simp))
    | bl j => cases ry; exact PySem.EqNone.eq_none_bool (fin_bl I q (by simp))
    | int j => obtain ⟨t', rfl⟩ := ry; exact PySem.EqNone.eq_none_int (fin_bl I q (by simp))
    | str j => obtain ⟨t', rfl⟩ := ry; exact PySem.EqNone.eq_none_str (fin_bl I q (by simp))
    | _ => exact absurd (show false = true from hs) Bool.false_ne_true
  | bl i =>
    cases rx
    cases y with
    | non => cases ry; exact PySem.EqNone.eq_bool_none (fin_bl I q (by simp))
    | bl j => cases ry; exact eq_bool (fin_bl I q dec_bl)
    | str j => obtain ⟨t', rfl⟩ := ry; exact PySem.EqMixed.eq_bool_str (fin_bl I q (by simp))
    | _ => exact absurd (show false = true from hs) Bool.false_ne_true
  | int i =>
    obtain ⟨t, rfl⟩ := rx
    cases y with
    | non => cases ry; exact PySem.EqNone.eq_int_none (fin_bl I q (by simp))
    | int j => obtain ⟨t', rfl⟩ := ry; exact eq_int (fin_bl I q dec_int)
    | str j => obtain ⟨t', rfl⟩ := ry; exact PySem.EqMixed.eq_int_str (fin_bl I q (by simp))
    | _ => exact absurd (show false = true from hs) Bool.false_ne_true
  | str i =>
    obtain ⟨t, rfl⟩ := rx
    cases y with
    | non => cases ry; exact PySem.EqNone.eq_str_none (fin_bl I q (by simp))
    | bl j => cases ry; exact PySem.EqMixed.eq_str_bool (fin_bl I q (by simp))
    | int j => obtain ⟨t', rfl⟩ := ry; exact PySem.EqMixed.eq_str_int (fin_bl I q (by simp))
    | str j => obtain ⟨t', rfl⟩ := ry; exact eq_str (fin_bl I q dec_str)
    | _ => exact absurd (show false = true from hs) Bool.false_ne_true
  | byt i =>
    obtain ⟨t, rfl⟩ := rx
    cases y with
    | byt j => obtain ⟨t', rfl⟩ := ry; exact PySem.W.eq_bytes (fin_bl I q dec_byt)
    | _ => exact absurd (show false = true from hs) Bool.false_ne_true
  | _ => cases y <;> exact absurd (show false = true from hs) Bool.false_ne_true
theorem op_ne : OpR X (compareOp .NotEq) rNe := by
  intro pins s σ H x y v u Q I rx ry h
  obtain ⟨hs, q⟩ := h
  cases x with
  | non =>
    cases rx
    cases y with
    | non => cases ry; exact PySem.EqNone.ne_none_none (fin_bl I q (by simp))
    | bl j => cases ry; exact PySem.EqNone.ne_none_bool (fin_bl I q (by simp))
    | int j => obtain ⟨t', rfl⟩ := ry; exact PySem.EqNone.ne_none_int (fin_bl I q (by simp))
    | str j => obtain ⟨t', rfl⟩ := ry; exact PySem.EqNone.ne_none_str (fin_bl I q (by simp))
    | _ => exact absurd (show false = true from hs) Bool.false_ne_true
  | bl i =>
    cases rx
    cases y with
    | non => cases ry; exact PySem.EqNone.ne_bool_none (fin_bl I q (by simp))
    | bl j => cases ry; exact ne_bool (fin_bl I q (congrArg not dec_bl))
    | str j => obtain ⟨t', rfl⟩ := ry; exact PySem.EqMixed.ne_bool_str (fin_bl I q (by simp))
    | _ => exact absurd (show false = true from hs) Bool.false_ne_true
  | int i =>
    obtain ⟨t, rfl⟩ := rx
    cases y with
    | non => cases ry; exact PySem.EqNone.ne_int_none (fin_bl I q (by simp))
    | int j => obtain ⟨t', rfl⟩ := ry; exact ne_int (fin_bl I q (congrArg not dec_int))
    | str j => obtain ⟨t', rfl⟩ := ry; exact PySem.EqMixed.ne_int_str (fin_bl I q (by simp))
    | _ => exact absurd (show false = true from hs) Bool.false_ne_true
  | str i =>
    obtain ⟨t, rfl⟩ := rx
    cases y with
    | non => cases ry; exact PySem.EqNone.ne_str_none (fin_bl I q (by simp))
    | bl j => cases ry; exact PySem.EqMixed.ne_str_bool (fin_bl I q (by simp))
    | int j => obtain ⟨t', rfl⟩ := ry; exact PySem.EqMixed.ne_str_int (fin_bl I q (by simp))
    | str j => obtain ⟨t', rfl⟩ := ry; exact ne_str (fin_bl I q (congrArg not dec_str))
    | _ => exact absurd (show false = true from hs) Bool.false_ne_true
  | byt i =>
    obtain ⟨t, rfl⟩ := rx
    cases y with
    | byt j => obtain ⟨t', rfl⟩ := ry; exact PySem.W.ne_bytes (fin_bl I q (congrArg not dec_byt))
    | _ => exact absurd (show false = true from hs) Bool.false_ne_true
  | _ => cases y <;> exact absurd (show false = true from hs) Bool.false_ne_true
theorem op_lt : OpR X (compareOp .Lt) (rI0 fun i j => .bl (decide (i < j))) := opB0 fun _ _ _ _ _ _ _ q => lt_int q
theorem op_le : OpR X (compareOp .LtE) (rI0 fun i j => .bl (decide (i <= j))) := opB0 fun _ _ _ _ _ _ _ q => le_int q
theorem op_gt : OpR X (compareOp .Gt) (rI0 fun i j => .bl (decide (j < i))) := opB0 fun _ _ _ _ _ _ _ q => gt_int q
theorem op_ge : OpR X (compareOp .GtE) (rI0 fun i j => .bl (decide (j <= i))) := opB0 fun _ _ _ _ _ _ _ q => ge_int q
theorem OpR.or {f : Value -> Value -> Sem Value} {r r' : R2} (h : OpR X f r) (h' : OpR X f r') : OpR X f (fun x y H Q => r x y H Q ∨ r' x y H Q) := by
  intro pins s σ H x y v u Q I rx ry q
  rcases q with q | q
  · exact h pins s σ H x y v u Q I rx ry q
  · exact h' pins s σ H x y v u Q I rx ry q
theorem nomark (b : Expr) {op : CmpOp} (h : op ≠ .In := by decide) (h2 : op ≠ .NotIn := by decide) : behindInMarks op b = false := by
  have e1 : (op == CmpOp.In) = false := by cases op <;> first | rfl | exact absurd rfl h
  have e2 : (op == CmpOp.NotIn) = false := by cases op <;> first | rfl | exact absurd rfl h2
  cases b <;> simp [behindInMarks, e1, e2]
theorem pe_cmpR {op : CmpOp} {r : R2} (ho : OpR X (compareOp op) r) (ha : PE X a ta) (hb : PE X b tb) (hm : behindInMarks op b = false) : PE X (.Compare a [op] [b] pos) (tOp r ta tb) := by
  intro pins s σ H Q I h
  exact wpAny_Compare1 (binT ha hb I h fun v u s2 x y H2 I2 rx ry q => ho pins s2 σ H2 x y v u Q I2 rx ry q) hm
def tTest (t : TE) : TT := fun σ H Q => t σ H fun x H' => ∃ k, x = .bl k /\ Q k H'
theorem pt_cmpR {op : CmpOp} {r : R2} (ho : OpR X (compareOp op) r) (ha : PE X a ta) (hb : PE X b tb) (hm : behindInMarks op b = false) : PT X (.Compare a [op] [b] pos) (tTest (tOp r ta tb)) := by
  intro pins s σ H Q I h
  refine wpAny_isTrue_Compare1 (thn (ha pins s σ H _ I h) fun v s1 ⟨x, H1, I1, r1, q1⟩ => thn (hb pins s1 σ H1 _ I1 q1) fun u s2 ⟨y, H2, I2, r2, q2⟩ =>
    thn (ho pins s2 σ H2 x y v u _ I2 r1 r2 q2) fun c s3 ⟨z, H3, I3, r3, k, e, q3⟩ => ?_) hm
  subst e
  cases r3
  exact wpAny_truthy_bool ⟨H3, I3, q3⟩
def TruV (K : PySem.W.Frag) (x : V) (H : Hp) (k : Bool) : Prop :=
  match x with
  | .non => k = false
  | .bl b => k = b
  | .int i => k = (i != 0)
  | .str y => y.length <= sizeLine /\ k = ((y.length : Int) != 0)
  | .byt y => y.size <= sizeLine /\ k = ((y.size : Int) != 0)
  | .ref p => (∃ xs, SqL K H p xs /\ k = !xs.isEmpty) ∨ (∃ xs, SqT K H p xs /\ k = !xs.isEmpty) ∨ ∃ kvs, H p = some (.dK kvs) /\ k = !kvs.isEmpty
  | _ => False
theorem isEmpty_kv {κ : Type} {kvs : List (κ × V)} {vs : List (κ × Value)} (r : KV kvs vs) : (!vs.isEmpty) = !kvs.isEmpty := by
  cases r <;> rfl
theorem isEmpty_of {xs : List V} {its : List Value} (r : Vals xs its) : (!its.toArray.isEmpty) = !xs.isEmpty := by
  cases r <;> simp
theorem line63 : (sizeLine : Nat) < 2 ^ 63 := by rw [sizeLine_eq]; decide
theorem tru_ok : TruR X (fun x H Q => ∃ k, TruV X.K x H k /\ Q k H) := by
  intro pins s σ H x v Q I rx h
  obtain ⟨k, e, q⟩ := h
  have hl := line63
  have hs : sizeLine = 16777216 := sizeLine_eq
  cases x with
  | non =>
    cases rx
    have e' : k = false := e
    subst e'
    exact truthy_none ⟨H, I, q⟩
  | bl b =>
    cases rx
    have e' : k = b := e
    subst e'
    exact wpAny_truthy_bool ⟨H, I, q⟩
  | int i =>
    obtain ⟨t, rfl⟩ := rx
    have e' : k = (i != 0) := e
    subst e'
    exact PySem.P.truthy_int ⟨H, I, q⟩
  | str y =>
    obtain ⟨t, rfl⟩ := rx
    obtain ⟨hy, e'⟩ : y.length <= sizeLine /\ k = ((y.length : Int) != 0) := e
    subst e'
    exact PySem.P.truthy_str (by omega) ⟨H, I.tok _, q⟩
  | byt y =>
    obtain ⟨t, rfl⟩ := rx
    obtain ⟨hy, e'⟩ : y.size <= sizeLine /\ k = ((y.size : Int) != 0) := e
    subst e'
    exact PySem.W.truthy_bytes (by omega) ⟨H, I.tok _, q⟩
  | ref p =>
    cases rx
    have e' : (∃ xs, SqL X.K H p xs /\ k = !xs.isEmpty) ∨ (∃ xs, SqT X.K H p xs /\ k = !xs.isEmpty) ∨ ∃ kvs, H p = some (.dK kvs) /\ k = !kvs.isEmpty := e
    rcases e' with ⟨xs, hx, e'⟩ | ⟨xs, hx, e'⟩ | ⟨kvs, hx, e'⟩
    · subst e'
      obtain ⟨its, r, pl, hz⟩ := I.list hx
      have hlen := r.length
      exact wpAny_truthy_list pl.isList (by simp only [List.size_toArray]; omega) ⟨H, I.tok _, by rw [isEmpty_of r]; exact q⟩
    · subst e'
      obtain ⟨its, r, pl, hz⟩ := I.tuple hx
      have hlen := r.length
      exact truthy_tuple pl (by simp only [List.size_toArray]; omega) ⟨H, I.tok _, by rw [isEmpty_of r]; exact q⟩
    · subst e'
      obtain ⟨hz, hS, vs, r, m⟩ : kvs.length <= sizeLine /\ (p == sysModules) = false /\ ∃ vs, KV kvs vs /\ s.heap.DictOf (mixKind X.prog X.w) p vs := I.hok p _ hx
      have hlen : kvs.length = vs.length := Paired.length r
      exact wpAny_truthy_dict hS m (by omega) ⟨H, I.tok _, by rw [isEmpty_kv r]; exact q⟩
  | _ => exact (show False from e).elim
theorem pt_truth (ha : PE X a ta) (he : ∀ whole, isTrue a X.env whole = (do let v <- whole; standAt a.pos; holding [v] (truthy v))) :
    PT X a (fun σ H Q => ta σ H fun x H' => ∃ k, TruV X.K x H' k /\ Q k H') := by
  intro pins s σ H Q I h
  exact isTrue_plain (thn (ha pins s σ H _ I h) fun v s1 ⟨x, H1, I1, r1, q1⟩ => tru_ok pins s1 σ H1 x v Q I1 r1 q1) (he _)
theorem vals1 {x : V} {us : List Value} (r : Vals [x] us) : ∃ u, us = [u] /\ RelV x u := by
  cases r with
  | cons r1 r2 => cases r2; exact ⟨_, rfl, r1⟩
theorem vals2 {x y : V} {us : List Value} (r : Vals [x, y] us) : ∃ u w', us = [u, w'] /\ RelV x u /\ RelV y w' := by
  cases r with
  | cons r1 r2 =>
    cases r2 with
    | cons r3 r4 => cases r4; exact ⟨_, _, rfl, r1, r3⟩
theorem call_abs : CallR X (.builtin "abs") (fun xs H Q => ∃ i, xs = [.int i] /\ Q (.int (if i < 0 then -i else i)) H) := by
  intro pins s σ H xs us Q I r h
  obtain ⟨i, rfl, q⟩ := h
  obtain ⟨u, rfl, t, rfl⟩ := vals1 r
  exact call_abs_int fun u tk => ⟨.int (if i < 0 then -i else i), H, I.tok _, ⟨_, rfl⟩, q⟩
theorem call_max2 (hc : X.calm = true) : CallR X (.builtin "max") (fun xs H Q => ∃ i j, xs = [.int i, .int j] /\ Q (.int (if j > i then j else i)) H) := by
  intro pins s σ H xs us Q I r h
  obtain ⟨i, j, rfl, q⟩ := h
  obtain ⟨u, w', rfl, ⟨t, rfl⟩, ⟨t', rfl⟩⟩ := vals2 r
  refine max_two_ints (I.ok.hd hc) fun h' tk k => ⟨_, H, I.kept k, ?_, q⟩
  by_cases hj : j > i
  · rw [if_pos hj, if_pos hj]; exact ⟨_, rfl⟩
  · rw [if_neg hj, if_neg hj]; exact ⟨_, rfl⟩
theorem call_min2 (hc : X.calm = true) : CallR X (.builtin "min") (fun xs H Q => ∃ i j, xs = [.int i, .int j] /\ Q (.int (if j < i then j else i)) H) := by
  intro pins s σ H xs us Q I r h
  obtain ⟨i, j, rfl, q⟩ := h
  obtain ⟨u, w', rfl, ⟨t, rfl⟩, ⟨t', rfl⟩⟩ := vals2 r
  refine min_two_ints (I.ok.hd hc) fun h' tk k => ⟨_, H, I.kept k, ?_, q⟩
  by_cases hj : j < i
  · rw [if_pos hj, if_pos hj]; exact ⟨_, rfl⟩
  · rw [if_neg hj, if_neg hj]; exact ⟨_, rfl⟩
end
end L2
namespace L2
open PySem PySem.Spec PyProof.Rows
section
variable {prog : Program} {w : World} {A : Around} {E : Value -> Shared -> Prop} {s : Shared} {K : PySem.W.Frag} {x dx C f : Addr} {mA : Str -> Option Value} {name : Str} {v : Value}
end
section
variable {P : Program} {w : World} {H H' : Hp} {h h' : Heap} {a C dx : Addr} {fs fs' : List (Str × V)}
end
section
variable {X : Cx} {pins : List (Addr × Obj)} {σ : St} {H : Hp} {s : Shared} {a C dx : Addr} {fs : List (Str × V)} {f : Str} {v : V} {A : Around} {E : Value -> Shared -> Prop}
theorem Inv.made (I : Inv X pins σ H s) : Inv X pins σ (upd (upd H s.heap.objs.size (.own (s.heap.objs.size + 1))) (s.heap.objs.size + 1) (.ins C s.heap.objs.size []))
    { s with heap := (s.heap.push PySem.W.emptyDict).push (PySem.W.instObj C s.heap.objs.size) } := by
  have e1 : (s.heap.push PySem.W.emptyDict).get? s.heap.objs.size = some PySem.W.emptyDict := Heap.get?_push_size s.heap rfl
  have e2 : ((s.heap.push PySem.W.emptyDict).push (PySem.W.instObj C s.heap.objs.size)).get? (s.heap.objs.size + 1) = some (PySem.W.instObj C s.heap.objs.size) := by
    have := Heap.get?_push_size (s.heap.push PySem.W.emptyDict) (o := PySem.W.instObj C s.heap.objs.size) rfl
    rwa [Heap.size_push] at this
  have e3 : (s.heap.push PySem.W.emptyDict).Ns s.heap.objs.size (fun _ => none) := ⟨PySem.W.emptyDict, #[], _, e1, rfl, (fun e he => absurd he (by simp)), fun _ => rfl⟩
  have I1 := I.laid (a := s.heap.objs.size) (o := .own (s.heap.objs.size + 1)) (h' := s.heap.push PySem.W.emptyDict) (t' := s.toks) (fun b u q => Heap.get?_push_of_some _ q) (Nat.le_refl _) ⟨_, e1⟩
  refine I1.laid (a := s.heap.objs.size + 1) (o := .ins C s.heap.objs.size []) (t' := s.toks) (fun b u q => Heap.get?_push_of_some _ q) (Nat.le_of_eq (Heap.size_push _ _)) ?_
  have ne : s.heap.objs.size ≠ s.heap.objs.size + 1 := Nat.ne_of_lt (Nat.lt_succ_self _)
  refine ⟨by rw [upd_ne ne, upd_same], Nat.zero_le _, ne, e2, fun _ => none, (Heap.Ns1.of_empty e3).at fun o q => Heap.get?_push_of_some _ q, fun _ => True.intro, fun y hy => absurd rfl hy⟩
end
section
variable {X : Cx} {o e value : Expr} {f : Str} {pos pos' tpos : Pos} {ta tv : TE}
end
section
variable {X : Cx} {pins : List (Addr × Obj)} {σ : St} {H : Hp} {s : Shared} {A : Around} {E : Value -> Shared -> Prop} {Q : Value -> Shared -> Prop} {c : Value} {b : Bool}
end
end L2
namespace L2
open PySem PySem.Spec PyProof.Rows
structure Room (k : Nat) (A : Around) : Prop where
  hd : A.handled = none
  dp : A.depth + 3 * k + 5 < recursionLimit
  un : A.units + 16 * k + 200 < cLine
  gd : A.guards = some []
theorem Room.mono {j k : Nat} {A : Around} (r : Room k A) (h : j <= k) : Room j A := ⟨r.hd, by have := r.dp; omega, by have := r.un; omega, r.gd⟩
theorem Room.deeper {k : Nat} {A : Around} (r : Room (k + 1) A) (env : Env) : Room k (A.deeper env) :=
  ⟨r.hd, by have := r.dp; show A.depth + 1 + 3 * k + 5 < _; omega, by have := r.un; show A.units + 3 + 16 * k + 200 < _; omega, by first | exact r.gd | (simpa [Around.deeper, Around.under, Code.guards, Code.isGuard, pushGuards] using r.gd)⟩
theorem Room.in1 {k : Nat} {A : Around} (r : Room (k + 1) A) : Room k A.in1 :=
  ⟨r.hd, by have := r.dp; show A.depth + 3 * k + 5 < _; omega, by have := r.un; show A.units + 1 + 16 * k + 200 < _; omega, r.gd⟩
theorem Room.depth {k : Nat} {A : Around} (r : Room k A) : A.depth < recursionLimit := by have := r.dp; omega
theorem Room.units {k : Nat} {A : Around} (r : Room k A) : A.units + 64 < cLine := by have := r.un; omega
def tNil : TA := fun _ H Q => Q [] H
def tCons (ta : TE) (tr : TA) : TA := fun σ H Q => ta σ H fun x H1 => tr σ H1 fun xs H2 => Q (x :: xs) H2
section
variable {X : Cx} {e : Expr} {es : List Expr} {te : TE} {t : TA} {pos : Pos}
theorem pa_nil : PA X [] tNil := fun _ _ _ _ H Q I h => Calls.spliced_nil ⟨[], H, I, .nil, h⟩
theorem pa_cons (ha : PE X e te) (hr : PA X es t) (hs : starEach (e :: es) X.env = (false, eval e X.env) :: starEach es X.env := by rfl) : PA X (e :: es) (tCons te t) := by
  intro pos pins s σ H Q I h
  rw [hs]
  show wpAny _ _ (spliced ((false, eval e X.env) :: backTo pos (starEach es X.env))) _ _ s
  refine Calls.spliced_cons (thn (ha pins s σ H _ I h) fun u s1 ⟨x, H1, I1, r1, q1⟩ => ?_)
  exact thn (hr pos pins s1 σ H1 _ I1 q1) fun us s2 ⟨xs, H2, I2, r2, q2⟩ => ⟨x :: xs, H2, I2, .cons r1 r2, q2⟩
def tTup (t : TA) : TE := fun σ H Q => t σ H fun xs H1 => xs.length <= sizeLine /\ ∀ p, H1 p = none -> Q (.ref p) (upd H1 p (.tup xs))
def tLst (t : TA) : TE := fun σ H Q => t σ H fun xs H1 => xs.length <= sizeLine /\ ∀ p, H1 p = none -> Q (.ref p) (upd H1 p (.lst xs))
theorem pe_tup {x1} (h : PA X es t) : PE X (.Tuple es x1 pos) (tTup t) := by
  intro pins s σ H Q I hq
  refine wpAny_Tuple_spliced (thn (h pos pins s σ H _ I hq) fun us s1 ⟨xs, H1, I1, r, z, q⟩ => ⟨by rw [<- r.length]; exact z, ?_⟩)
  have hf : H1 s1.heap.objs.size = none := I1.hok.fresh (Nat.le_refl _)
  refine ⟨.ref s1.heap.objs.size, upd H1 s1.heap.objs.size (.tup xs), I1.laid (t' := s1.toks) (fun b u e => Heap.get?_push_of_some _ e) (Nat.le_refl _) ?_, rfl, q _ hf⟩
  exact ⟨z, us, r, ⟨_, Heap.get?_push_size _ rfl, rfl, _, rfl⟩⟩
theorem pe_lst (h : PA X es t) : PE X (.List es pos) (tLst t) := by
  intro pins s σ H Q I hq
  refine wpAny_List_spliced (thn (h pos pins s σ H _ I hq) fun us s1 ⟨xs, H1, I1, r, z, q⟩ => ⟨by rw [<- r.length]; exact z, ?_⟩)
  have hf : H1 s1.heap.objs.size = none := I1.hok.fresh (Nat.le_refl _)
  refine ⟨.ref s1.heap.objs.size, upd H1 s1.heap.objs.size (.lst xs), I1.laid (t' := s1.toks) (fun b u e => Heap.get?_push_of_some _ e) (Nat.le_refl _) ?_, rfl, q _ hf⟩
  exact ⟨z, us, 0, r, Heap.get?_push_size _ rfl⟩
end
abbrev Sp := List V -> Hp -> VK -> XK -> Prop
abbrev CXT := List Env -> Hp -> Shared -> XK -> Value -> Shared -> Prop
structure Env0 (P : Program) (w : World) (K : PySem.W.Frag) (mg : Str -> Option Value) (base : Heap) (A : Around) (outer : List Env) (s : Shared) (H : Hp) : Prop where
  frames : A.frames = some outer
  mod : Mod K mg base
  bs : ∀ b o, base.get? b = some o -> s.heap.get? b = some o /\ H b = none
  bsz : base.objs.size <= s.heap.objs.size
  funs : s.heap.FunFrames base outer
  frf : ∀ b ∈ frs outer, H b = none
  hok : HOk P w H s.heap
  bare : AllBare s.gens
def CE (outer : List Env) (P : Program) (w : World) (H : Hp) (s : Shared) (Q : VK) (u : Value) (s' : Shared) : Prop :=
  ∃ v H', s'.os = s.os /\ AllBare s'.gens /\ Un (frs outer) [] H H' s.heap s'.heap /\ HOk P w H' s'.heap /\ RelV v u /\ Q v H'
def CR (CX : CXT) (outer : List Env) (P : Program) (w : World) (H : Hp) (s : Shared) (Q : VK) (E : XK) (r : Result) (s' : Shared) : Prop :=
  match r with
  | .ok (.ret u) => CE outer P w H s Q u s'
  | .ok _ => False
  | .error e => CX outer H s E e s'
structure FnOk (P : Program) (w : World) (K : PySem.W.Frag) (mg : Str -> Option Value) (base : Heap) (CX : CXT) (k : Nat) (f : Addr) (fd : FuncData) (ps : List Str) (sp : Sp) : Prop where
  len : ∀ vs H Q E, sp vs H Q E -> vs.length = ps.length
  run : ∀ (A : Around) (outer : List Env) (s : Shared) (H : Hp) (args : Args) (us : List Value) (vs : List V) (Q : VK) (E : XK), Room k A -> Env0 P w K mg base A outer s H -> BindsTo s fd args (ps.zip us) -> Vals vs us -> sp vs H Q E ->
    codeAny (model P w) A (.call (.ref f) args) (CR CX outer P w H s Q E) s
theorem FnOk.mono {P : Program} {w : World} {K : PySem.W.Frag} {mg : Str -> Option Value} {base : Heap} {CX : CXT} {j k : Nat} {f : Addr} {fd : FuncData} {ps : List Str} {sp : Sp} (F : FnOk P w K mg base CX j f fd ps sp) (h : j <= k) :
    FnOk P w K mg base CX k f fd ps sp := ⟨F.len, fun A outer s H args us vs Q E hr => F.run A outer s H args us vs Q E (hr.mono h)⟩
theorem FnOk.imp {P : Program} {w : World} {K : PySem.W.Frag} {mg : Str -> Option Value} {base : Heap} {CX : CXT} {k : Nat} {f : Addr} {fd : FuncData} {ps : List Str} {sp sp' : Sp} (F : FnOk P w K mg base CX k f fd ps sp)
    (h : ∀ vs H Q E, sp' vs H Q E -> sp vs H Q E) : FnOk P w K mg base CX k f fd ps sp' :=
  ⟨fun vs H Q E q => F.len vs H Q E (h _ _ _ _ q), fun A outer s H args us vs Q E hr he hb hv hs => F.run A outer s H args us vs Q E hr he hb hv (h _ _ _ _ hs)⟩
theorem Env0.in1 {P : Program} {w : World} {K : PySem.W.Frag} {mg : Str -> Option Value} {base : Heap} {A : Around} {outer : List Env} {s : Shared} {H : Hp} (e : Env0 P w K mg base A outer s H) :
    Env0 P w K mg base A.in1 outer s H := ⟨e.frames, e.mod, e.bs, e.bsz, e.funs, e.frf, e.hok, e.bare⟩
section
variable {X : Cx} {pins : List (Addr × Obj)} {σ : St} {H : Hp} {s s' : Shared}
theorem Inv.env0 (I : Inv X pins σ H s) : Env0 X.prog X.w X.K X.mg X.base X.A X.stack s H :=
  ⟨I.ok.frames, I.ok.mod, I.bs, Nat.le_trans I.ok.bsz I.sz, I.stack, I.stkFree, I.hok, I.bare⟩
theorem Inv.after {Q : VK} {u : Value} (I : Inv X pins σ H s) (h : CE X.stack X.prog X.w H s Q u s') : EP X pins σ Q u s' := by
  obtain ⟨v, H', os, bare, un, hok, r, q⟩ := h
  obtain ⟨hh, g, d, t, os'⟩ := s'
  obtain rfl : os' = s.os := os
  exact ⟨v, H', I.call (h' := hh) (g' := g) (d' := d) (t' := t) (ch := []) un hok bare (fun b z => absurd z (by simp)), r, q⟩
end
def tCall (sp : Sp) (dvs : List V) (E : XK) (t : TA) : TE := fun σ H Q => t σ H fun vs H1 => sp (vs ++ dvs) H1 Q E
def Binds (K : PySem.W.Frag) (fd : FuncData) (ps : List Str) (ds : List Value) : Prop :=
  ∀ (s : Shared) (us : List Value), K.In s.heap -> (us ++ ds).length = ps.length -> BindsTo s fd ⟨us, []⟩ (ps.zip (us ++ ds))
theorem Binds.all {K : PySem.W.Frag} {fd : FuncData} {ps : List Str} (h : ∀ us : List Value, us.length = ps.length -> bindArgs fd ⟨us, []⟩ = pure (ps.zip us)) : Binds K fd ps [] := fun s us _ hl => by
  rw [List.append_nil] at hl ⊢
  exact .of_eq (h us hl)
def Passes (CX : CXT) (X : Cx) (E : XK) : Prop := ∀ (pins : List (Addr × Obj)) (σ : St) (H : Hp) (s : Shared) (e : Value) (s' : Shared), Inv X pins σ H s -> CX X.stack H s E e s' -> X.xe e s'
section
variable {X : Cx} {CX : CXT} {k : Nat} {f C : Addr} {fd : FuncData} {ps : List Str} {sp : Sp} {dvs : List V} {ds : List Value} {E : XK} {x m : Str} {p pos apos : Pos} {e o : Expr} {es : List Expr} {ta : TE} {t : TA}
theorem run_fn {pins : List (Addr × Obj)} {σ : St} {H : Hp} {s : Shared} {Q : VK} {us : List Value} {vs : List V} (F : FnOk X.prog X.w X.K X.mg X.base CX k f fd ps sp) (hr : Room k X.A) (hb : Binds X.K fd ps ds) (hd : Vals dvs ds) (hx : Passes CX X E)
    (I : Inv X pins σ H s) (r : Vals vs us) (h : sp (vs ++ dvs) H Q E) : wpAny (model X.prog X.w) X.A (call (.ref f) us) (EP X pins σ Q) X.xe s := by
  have r2 : Vals (vs ++ dvs) (us ++ ds) := r.append hd
  have hl : (us ++ ds).length = ps.length := by rw [<- r2.length]; exact F.len _ _ _ _ h
  refine wpAny_call (codeAny_mono (F.run X.A X.stack s H ⟨us, []⟩ (us ++ ds) (vs ++ dvs) Q E hr I.env0 (hb s us I.kIn hl) r2 h) fun r s' hq => ?_)
  cases r with
  | error e => exact hx pins σ H s e s' I hq
  | ok fl =>
    cases fl with
    | ret u => exact I.after hq
    | next => exact False.elim hq
    | brk => exact False.elim hq
    | cont => exact False.elim hq
theorem pe_call (F : FnOk X.prog X.w X.K X.mg X.base CX k f fd ps sp) (hr : Room k X.A) (hg : Gl X x) (hm : X.mg x = some (.ref f)) (hk : PySem.W.keepIn X.K (.ref f) = true) (hb : Binds X.K fd ps ds) (hd : Vals dvs ds) (hx : Passes CX X E)
    (ha : PA X (e :: es) t) (hdb : (x == ("__debug__" : Str)) = false := by decide) (he : starEach (e :: es) X.env = (false, eval e X.env) :: starEach es X.env := by rfl) (hpl : (backTo pos (starEach es X.env)).any (·.1) = false := by rfl) :
    PE X (.Call (.Name x p) (e :: es) [] pos) (tCall sp dvs E t) := by
  intro pins s σ H Q I h
  refine wpAny_Call_Name_kw (ld_glob I hg hm ?_ hdb)
  refine PySem.W.callWith_K (h₀ := X.base) I.ok.mod.kin hk (thn (ha pos pins s σ H _ I h) fun us s1 ⟨vs, H1, I1, r, q⟩ => ⟨I1.kIn, ?_⟩) he hpl
  exact run_fn F hr hb hd hx I1 r q
end
section
variable {X : Cx} {CX : CXT} {k : Nat} {f C : Addr} {fd : FuncData} {ps ks : List Str} {sp : Sp} {E : XK} {x m : Str} {p pos apos kpos : Pos} {e o : Expr} {es : List Expr} {kws : List Keyword} {te ta : TE} {t tk : TA} {nm : Option Str}
variable {g : List Value -> List Value -> List Value} {gV : List V -> List V -> List V}
end
structure FnScope (N P : List Str) (sc : Scope) : Prop where
  kind : sc.kind = .function
  co : sc.isCoroutine = false
  gen : sc.isGenerator = false
  nd : N.Nodup
  pre : N.take P.length = P
  par : ∀ x ∈ P, sc.names.lookup x = some .local ∨ sc.names.lookup x = some .cell
  nofree : ∀ y ∈ sc.names, y.2 ≠ .free
theorem bindL_out {kindOf : Str -> Option NameKind} {x : Str} : ∀ {binds : List (Str × Value)} {m : Str -> Option Value}, (∀ v, (x, v) ∉ binds) -> bindL kindOf binds m x = m x
  | [], _, _ => rfl
  | (n, v) :: r, m, h => by
    unfold bindL
    rw [bindL_out fun w hw => h w (List.mem_cons_of_mem _ hw)]
    split
    · have : x ≠ n := by rintro rfl; exact h v List.mem_cons_self
      simp [this]
    · rfl
theorem bindC_out {kindOf : Str -> Option NameKind} {x : Str} : ∀ {binds : List (Str × Value)} {m : Str -> Option Value}, (∀ v, (x, v) ∉ binds) -> bindC kindOf binds m x = m x
  | [], _, _ => rfl
  | (n, v) :: r, m, h => by
    unfold bindC
    rw [bindC_out fun w hw => h w (List.mem_cons_of_mem _ hw)]
    split
    · rfl
    · have : x ≠ n := by rintro rfl; exact h v List.mem_cons_self
      simp [this]
theorem bindL_get {kindOf : Str -> Option NameKind} {x : Str} {v : Value} : ∀ {P : List Str} {vs : List Value} {i : Nat} {m : Str -> Option Value}, P.Nodup -> P[i]? = some x -> vs[i]? = some v -> kindOf x = some .local ->
    bindL kindOf (P.zip vs) m x = some v
  | [], _, _, _, _, h, _, _ => by simp at h
  | _ :: _, [], _, _, _, _, h, _ => by simp at h
  | p :: P, w :: vs, 0, m, nd, h1, h2, hk => by
    simp at h1 h2; subst h1; subst h2
    show bindL kindOf ((p, w) :: P.zip vs) m p = _
    unfold bindL
    rw [bindL_out fun v hv => (List.nodup_cons.mp nd).1 (List.of_mem_zip hv).1, if_pos hk]
    simp
  | p :: P, w :: vs, i + 1, m, nd, h1, h2, hk => by
    show bindL kindOf ((p, w) :: P.zip vs) m x = _
    unfold bindL
    exact bindL_get (i := i) (List.nodup_cons.mp nd).2 (by simpa using h1) (by simpa using h2) hk
theorem bindC_get {kindOf : Str -> Option NameKind} {x : Str} {v : Value} : ∀ {P : List Str} {vs : List Value} {i : Nat} {m : Str -> Option Value}, P.Nodup -> P[i]? = some x -> vs[i]? = some v -> kindOf x ≠ some .local ->
    bindC kindOf (P.zip vs) m x = some v
  | [], _, _, _, _, h, _, _ => by simp at h
  | _ :: _, [], _, _, _, _, h, _ => by simp at h
  | p :: P, w :: vs, 0, m, nd, h1, h2, hk => by
    simp at h1 h2; subst h1; subst h2
    show bindC kindOf ((p, w) :: P.zip vs) m p = _
    unfold bindC
    rw [bindC_out fun v hv => (List.nodup_cons.mp nd).1 (List.of_mem_zip hv).1, if_neg hk]
    simp
  | p :: P, w :: vs, i + 1, m, nd, h1, h2, hk => by
    show bindC kindOf ((p, w) :: P.zip vs) m x = _
    unfold bindC
    exact bindC_get (i := i) (List.nodup_cons.mp nd).2 (by simpa using h1) (by simpa using h2) hk
def start (N : List Str) (vs : List V) : St := vs.map some ++ List.replicate (N.length - vs.length) none
def cxOf (CX : CXT) (P : Program) (w : World) (K : PySem.W.Frag) (mg : Str -> Option Value) (base : Heap) (N : List Str) (qual : Str) (scope : Scope) (f : Addr) (cd : Value) (A : Around) (outer : List Env) (s : Shared) (H : Hp) (E : XK) : Cx where
  prog := P
  w := w
  K := K
  mg := mg
  base := base
  A := A.deeper (envOfC qual scope s.heap.objs.size f cd)
  N := N
  s₀ := s
  H₀ := H
  env := envOfC qual scope s.heap.objs.size f cd
  outer := outer
  stack := envOfC qual scope s.heap.objs.size f cd :: outer
  ex := []
  calm := true
  fn := fun _ => true
  pn := []
  xe := fun e s' => wpAny (model P w) (A.deeper (envOfC qual scope s.heap.objs.size f cd)) (leaving (envOfC qual scope s.heap.objs.size f cd) e) (fun _ s'' => CX outer H s E e s'') (fun e' s'' => CX outer H s E e' s'') s'
theorem cell_has {sc : Scope} {n : Nat} {x : Str} (h : sc.names.lookup x = some .cell) : ∃ c, (cellsFrom n sc.names []).lookup x = some c := by
  have q := PySem.W.cellsFrom_some sc.names n [] (.inl h)
  exact Option.isSome_iff_exists.mp q
theorem inv_start {CX : CXT} {P : Program} {w : World} {K : PySem.W.Frag} {mg : Str -> Option Value} {base : Heap} {N ps : List Str} {qual : Str} {scope : Scope} {f : Addr} {cd : Value} {A : Around} {outer : List Env} {s s1 : Shared} {H : Hp} {E : XK} {us : List Value} {vs : List V}
    (S : FnScope N ps scope) (hd : A.handled = none) (e0 : Env0 P w K mg base A outer s H) (hl : vs.length = ps.length) (r : Vals vs us)
    (x : InCallC s s.heap.objs.size (bindL (envOfC qual scope s.heap.objs.size f cd).kindOf (ps.zip us) fun _ => none) (cellsFrom (s.heap.objs.size + 1) scope.names []) (bindC (envOfC qual scope s.heap.objs.size f cd).kindOf (ps.zip us) fun _ => none) s1) :
    Inv (cxOf CX P w K mg base N qual scope f cd A outer s H E) [] (start N vs) H s1 := by
  have hpl : ps.length <= N.length := by have := congrArg List.length S.pre; rw [List.length_take] at this; omega
  obtain ⟨h1, tk, rfl, hk⟩ := x.done
  have noA : ∀ b : Addr, b ∉ (cxOf CX P w K mg base N qual scope f cd A outer s H E).ex := fun b z => absurd (show b ∈ ([] : List Addr) from z) (by simp)
  refine ⟨⟨e0.mod, S.kind, rfl, rfl, Nat.le_refl _, fun y z c h1 h2 => ?_, fun y hy => ?_, fun y c _ h => ?_, fun _ => hd, Around.frames_deeper e0.frames, .inr ⟨rfl, rfl⟩, fun b z => absurd z (noA b), e0.bs, e0.bsz, fun b _ _ => noA b, fun b z => absurd z (noA b), e0.funs, e0.frf⟩,
    rfl, e0.bare, Un.kept hk, ⟨_, x.toInCall.ns, fun i y v h1 h2 h3 => ?_⟩, fun y c h => ⟨_, x.cell y c h⟩, e0.hok.fresh (Nat.le_refl _), fun y c h => ?_, fun p hp => absurd (show p ∈ ([] : List (Addr × Obj)) from hp) (by simp), e0.hok.kept hk, ?_⟩
  · exact name_of_addr x.apart (PySem.mem_of_lookup h1) (PySem.mem_of_lookup h2)
  · have hy : scope.names.lookup y = some .cell ∨ scope.names.lookup y = some .free := hy
    rcases hy with hy | hy
    · exact cell_has hy
    · exact absurd rfl (S.nofree _ (PySem.mem_of_lookup hy))
  · exact Nat.le_of_lt (x.above y c (PySem.mem_of_lookup h))
  · have hi : i < vs.length := by
      unfold start at h2
      by_cases hi : i < vs.length
      · exact hi
      · rw [List.getElem?_append_right (by simpa using hi)] at h2
        rw [List.getElem?_replicate] at h2
        split at h2 <;> cases h2
    have ha : vs[i]? = some v := by
      unfold start at h2
      rw [List.getElem?_append_left (by simpa using hi), List.getElem?_map] at h2
      cases e : vs[i]? with
      | none => rw [e] at h2; cases h2
      | some a => rw [e] at h2; cases h2; rfl
    obtain ⟨u, hu, rv⟩ := r.get ha
    have hp : ps[i]? = some y := by
      rw [<- S.pre, List.getElem?_take_of_lt (by omega)]; exact h1
    have ndP : ps.Nodup := by rw [<- S.pre]; exact S.nd.sublist (List.take_sublist _ _)
    refine ⟨u, rv, ?_⟩
    rcases S.par y (List.mem_of_getElem? hp) with k | k
    · exact .inl ⟨k, bindL_get ndP hp hu k⟩
    · obtain ⟨c, e⟩ := cell_has (n := s.heap.objs.size + 1) k
      refine .inr ⟨.inl k, c, e, ?_⟩
      have q := x.cell y c e
      rw [bindC_get ndP hp hu (by show scope.names.lookup y ≠ _; rw [k]; decide)] at q
      exact q
  · exact e0.hok.fresh (Nat.le_of_lt (x.above y c (PySem.mem_of_lookup h)))
  · unfold start
    show _ = N.length
    rw [List.length_append, List.length_map, List.length_replicate]
    omega
theorem fn_of {CX : CXT} {P : Program} {w : World} {K : PySem.W.Frag} {mg : Str -> Option Value} {base : Heap} {k : Nat} {f : Addr} {name qual : Str} {params : Arguments} {body : List Stmt} {scope : Scope} {dV kV doc pm cdv ct oc : Value} {an od : Option Addr}
    {osl : Array (Option Value)} {N ps : List Str} {sp : Sp} (lk : K.lookup f = some ⟨oc, od, .func (PySem.W.fnOf name qual params body scope dV kV doc pm an cdv ct), osl⟩) (hcd : PySem.W.codeIn K cdv qual = true) (S : FnScope N ps scope)
    (len : ∀ vs H Q E, sp vs H Q E -> vs.length = ps.length)
    (hbody : ∀ (A : Around) (outer : List Env) (s : Shared) (H : Hp) (vs : List V) (Q : VK) (E : XK), Room k (A.deeper (envOfC qual scope s.heap.objs.size f cdv)) -> sp vs H Q E ->
      ∃ t, PSs (cxOf CX P w K mg base N qual scope f cdv A outer s H E) body t /\ t { nx := fun _ H' => Q .non H', rt := Q } (start N vs) H) :
    FnOk P w K mg base CX (k + 1) f (PySem.W.fnOf name qual params body scope dV kV doc pm an cdv ct) ps sp := by
  refine ⟨len, fun A outer s H args us vs Q E hr e0 hb r hsp => ?_⟩
  have hl := len _ _ _ _ hsp
  have KX : K.In s.heap := e0.mod.kin.keeps fun b o e => (e0.bs b o e).1
  have lim : s.heap.NoLimit := e0.mod.nolimit.keeps fun b o e => (e0.bs b o e).1
  have hkind : ∀ y ∈ ps.zip us, scope.names.lookup y.1 = some .local ∨ (scope.names.lookup y.1 = some .cell /\ ((cellsFrom (s.heap.objs.size + 1) scope.names []).lookup y.1).isSome = true) := fun ⟨n, v⟩ hy => by
    rcases S.par n (List.of_mem_zip hy).1 with q | q
    · exact .inl q
    · exact .inr ⟨q, PySem.W.cellsFrom_some _ _ _ (.inl q)⟩
  refine codeAny_call_function hr.depth (KX _ _ lk) rfl S.co S.gen rfl (PySem.W.codeRec_of KX hcd) (hb _ _ _ _ ?_)
  refine wpAny_newFunctionEnv_cells S.kind hkind fun env he s1 x => ?_
  subst he
  refine ⟨lim.keeps x.toInCall.keep, codeAny_func ?_⟩
  obtain ⟨t, ht, hq⟩ := hbody A outer s H vs Q E (hr.deeper _) hsp
  have I : Inv (cxOf CX P w K mg base N qual scope f cdv A outer s H E) [] (start N vs) H s1 := inv_start S hr.hd e0 hl r x
  refine wpAny_mono (ht [] s1 (start N vs) H _ I hq) (fun fl s' hs => ?_) fun e s' hs => hs
  have fin : ∀ {σ' : St} {H' : Hp} {v : V} {u : Value}, Inv (cxOf CX P w K mg base N qual scope f cdv A outer s H E) [] σ' H' s' -> RelV v u -> Q v H' -> CE outer P w H s Q u s' :=
    fun {σ' H' v u} J rv q => ⟨v, H', J.os, J.bare, J.base, J.hok, rv, q⟩
  cases fl with
  | ret u =>
    obtain ⟨v, σ', H', J, rv, q⟩ := hs
    exact fin J rv q
  | next =>
    obtain ⟨σ', H', J, q⟩ := hs
    exact fin (v := V.non) (u := Value.none) J rfl q
  | brk =>
    obtain ⟨_, _, _, q⟩ := hs
    exact False.elim q
  | cont =>
    obtain ⟨_, _, _, q⟩ := hs
    exact False.elim q
end L2
namespace L2
open PySem PySem.Spec PyProof.Rows
section
variable {X : Cx} {x : Str} {p pos : Pos} {e : Expr} {es : List Expr} {t : TA} {id T : String} {r : List V -> Hp -> VK -> Prop}
def tCB (r : List V -> Hp -> VK -> Prop) (t : TA) : TE := fun σ H Q => t σ H fun vs H1 => r vs H1 Q
theorem pe_callB (hc : CallR X (.builtin id) r) (hg : Gl X x) (hm : X.mg x = none) (hv : bootBuiltins x = some (.builtin id)) (ha : PA X (e :: es) t) (hn : x ≠ "__name__" := by decide) (hdb : (x == ("__debug__" : Str)) = false := by decide)
    (he : starEach (e :: es) X.env = (false, eval e X.env) :: starEach es X.env := by rfl) (hpl : (backTo pos (starEach es X.env)).any (·.1) = false := by rfl) : PE X (.Call (.Name x p) (e :: es) [] pos) (tCB r t) := by
  intro pins s σ H Q I h
  refine wpAny_Call_Name_kw (ld_blt I hg hm hv ?_ hn hdb)
  exact PyProof.Rows.callWith_builtin1 (thn (ha pos pins s σ H _ I h) fun us s1 ⟨vs, H1, I1, r1, q1⟩ => hc pins s1 σ H1 vs us Q I1 r1 q1) he hpl
theorem pe_callTy (hc : CallR X (.type T) r) (hg : Gl X x) (hm : X.mg x = none) (hv : bootBuiltins x = some (.type T)) (ha : PA X (e :: es) t) (hn : x ≠ "__name__" := by decide) (hdb : (x == ("__debug__" : Str)) = false := by decide)
    (he : starEach (e :: es) X.env = (false, eval e X.env) :: starEach es X.env := by rfl) (hpl : (backTo pos (starEach es X.env)).any (·.1) = false := by rfl) : PE X (.Call (.Name x p) (e :: es) [] pos) (tCB r t) := by
  intro pins s σ H Q I h
  refine wpAny_Call_Name_kw (ld_blt I hg hm hv ?_ hn hdb)
  exact PyProof.Rows.callWith_type1 (thn (ha pos pins s σ H _ I h) fun us s1 ⟨vs, H1, I1, r1, q1⟩ => hc pins s1 σ H1 vs us Q I1 r1 q1) he hpl
end
end L2
namespace HT
open PySem PyProof.Rows
section
open PySem.SeqAt
open PySem.AutoSeq1 (wpAny_loadPart')
open PySem.MeetsSeq PySem.MeetsSeq2 PySem.MeetsSeq3
end
section
variable {prog : Program} {w : World} {A : Around} {E : Value -> Shared -> Prop} {s : Shared}
theorem cat_tup {t b : Addr} {vs ws : List Value} {Q : Value -> Shared -> Prop} (ht : IsTup s.heap t vs.toArray) (hb : IsTup s.heap b ws.toArray) (hv : vs ≠ [])
    (h1 : ws = [] -> Q (.ref t) s) (h2 : ws ≠ [] -> Q (.ref s.heap.objs.size) { s with heap := s.heap.push { cls := .type "tuple", data := .seq (vs ++ ws).toArray } })
    (hsz : vs.length + ws.length <= sizeLine) : wpAny (model prog w) A (binaryOp .Add (.ref t) (.ref b)) Q E s := by
  obtain ⟨⟨cls, dd, data, sl⟩, ho, hc, n, hd⟩ := id ht
  obtain ⟨⟨cls2, dd2, data2, sl2⟩, ho2, hc2, n2, hd2⟩ := id hb
  simp only at hc hd hc2 hd2
  subst hc hd hc2 hd2
  have e : vs.toArray ++ ws.toArray = (vs ++ ws).toArray := by simp
  by_cases hw : ws = []
  · exact concat_meets ⟨_, ho, rfl⟩ ⟨_, ho2, rfl⟩ noFill_tuple_add seq_tuple_add PySem.F.slot_tuple_add PySem.F.entry_tuple_add (PySem.F.args_tuple_add_2 _ _)
      (tuple_addW1 t b vs.toArray ws.toArray n n2 dd dd2 sl sl2 (by simpa using hv) (by simp [hw])) ⟨ho, ho2, h1 hw⟩
  · refine concat_meets ⟨_, ho, rfl⟩ ⟨_, ho2, rfl⟩ noFill_tuple_add seq_tuple_add PySem.F.slot_tuple_add PySem.F.entry_tuple_add (PySem.F.args_tuple_add_2 _ _)
      (tuple_addW2 t b vs.toArray ws.toArray n n2 dd dd2 sl sl2 (by simpa using hv) (by simpa using hw) (by rw [List.size_toArray, List.size_toArray]; exact hsz)) ⟨ho, ho2, ?_⟩
    rw [e]
    exact h2 hw
def sIx (n d : Nat) : Option Int -> Nat
  | none => d
  | some v => if v < 0 then (v + (n : Int)).toNat else min v.toNat n
theorem sIx_none (n d : Nat) : sIx n d none = d := rfl
theorem sIx_nat (n d k : Nat) : sIx n d (some (k : Int)) = min k n := by
  show (if (k : Int) < 0 then ((k : Int) + (n : Int)).toNat else min (k : Int).toNat n) = min k n
  rw [if_neg (by omega), Int.toNat_natCast]
theorem sIx_le (n d : Nat) (hd : d <= n) (o : Option Int) : sIx n d o <= n := by
  cases o with
  | none => exact hd
  | some v =>
    show (if v < 0 then (v + (n : Int)).toNat else min v.toNat n) <= n
    by_cases hv : v < 0
    · rw [if_pos hv]; omega
    · rw [if_neg hv]; exact Nat.min_le_right _ _
theorem clip_eq (v : Int) (n d : Nat) : (if v < 0 then max (v + (n : Int)) 0 else min v (n : Int)) = ((sIx n d (some v) : Nat) : Int) := by
  show (if v < 0 then max (v + (n : Int)) 0 else min v (n : Int)) = (((if v < 0 then (v + (n : Int)).toNat else min v.toNat n) : Nat) : Int)
  by_cases hv : v < 0
  · simp only [if_pos hv]; omega
  · simp only [if_neg hv]; omega
theorem adjust_gen (lo hi : Option Int) (n : Nat) : Builtin.Slice.sliceAdjust lo hi 1 (n : Int) = (((sIx n 0 lo : Nat) : Int), ((sIx n n hi : Nat) : Int)) := by
  have h1 : ¬ ((1 : Int) < 0) := by omega
  unfold Builtin.Slice.sliceAdjust
  simp only [h1, if_false]
  refine Prod.ext ?_ ?_
  · cases lo with
    | none => rfl
    | some v => exact clip_eq v n 0
  · cases hi with
    | none => rfl
    | some v => exact clip_eq v n n
theorem places_gen (i j : Nat) : Builtin.Slice.slicePlaces (i : Int) (j : Int) 1 = j - i := by
  unfold Builtin.Slice.slicePlaces
  have h1 : (1 : Int) > 0 := by omega
  simp only [h1, if_true, Int.ediv_one]
  split <;> omega
theorem slicePart_ {v : Value} {o : Option Int} {Q : Option Int -> Shared -> Prop} (p : IsPart v o) (h : Q o s) : wpAny (model prog w) A (Builtin.Slice.slicePartIndex v) Q E s := by
  cases p with
  | none => exact slicePart_none h
  | int i t => exact slicePart_int h
theorem sliceApplied_gen {sl : Addr} {vl vu : Value} {lo hi : Option Int} {n : Nat} {Q : Int × Int × Nat -> Shared -> Prop} (hs : s.heap.IsSliceOf sl vl vu .none) (pl : IsPart vl lo) (pu : IsPart vu hi)
    (h : Q (((sIx n 0 lo : Nat) : Int), 1, sIx n n hi - sIx n 0 lo) s) : wpAny (model prog w) A (Builtin.Slice.sliceApplied (.ref sl) (pure (n : Int))) Q E s := by
  obtain ⟨os, hos, hcs, hds⟩ := id hs
  unfold Builtin.Slice.sliceApplied Builtin.Slice.sliceFields
  refine wpAny_bind (wpAny_bind (wpAny_field hos hds (x := vl) rfl (wpAny_bind (wpAny_field hos hds (x := vu) rfl (wpAny_bind (wpAny_field hos hds (x := .none) rfl (wpAny_pure ?_)))))))
  refine wpAny_bind (slicePart_none ?_)
  show wpAny _ _ (if ((1 : Int) == 0) = true then _ else _) _ _ s
  rw [if_neg (by decide)]
  refine wpAny_bind (slicePart_ pl (wpAny_bind (slicePart_ pu (wpAny_bind (wpAny_pure ?_)))))
  show wpAny _ _ (match Builtin.Slice.sliceAdjust lo hi 1 (n : Int) with | (lo, hi) => pure (lo, (1 : Int), Builtin.Slice.slicePlaces lo hi 1)) _ _ s
  rw [adjust_gen lo hi n]
  show wpAny _ _ (pure (((sIx n 0 lo : Nat) : Int), (1 : Int), Builtin.Slice.slicePlaces ((sIx n 0 lo : Nat) : Int) ((sIx n n hi : Nat) : Int) 1)) _ _ s
  rw [places_gen]
  exact wpAny_pure h
theorem pick_gen (xs : Array Value) (i k : Nat) : ((List.range k).filterMap fun (m : Nat) => xs[((i : Int) + (m : Int) * 1).toNat]?).toArray = ((xs.toList.drop i).take k).toArray := by
  have e : (fun (m : Nat) => xs[((i : Int) + (m : Int) * 1).toNat]?) = fun m => xs[i + m]? := by
    funext m
    have : ((i : Int) + (m : Int) * 1).toNat = i + m := by omega
    rw [this]
  rw [e]
  have := pick_run xs i k
  rw [List.filterMap_map] at this
  have e2 : ((fun x => xs[x]?) ∘ fun x => i + x) = fun m => xs[i + m]? := rfl
  rw [e2] at this
  rw [this]
theorem getItem_tuple_cut {t sl : Addr} {items : Array Value} {vl vu : Value} {lo hi : Option Int} {Q : Value -> Shared -> Prop} (ht : IsTup s.heap t items) (hs : s.heap.IsSliceOf sl vl vu .none) (pl : IsPart vl lo) (pu : IsPart vu hi)
    (hw : ¬ (sIx items.size 0 lo = 0 /\ sIx items.size items.size hi = items.size))
    (h : Q (.ref s.heap.objs.size) { s with heap := s.heap.push { cls := .type "tuple", data := .seq ((items.toList.drop (sIx items.size 0 lo)).take (sIx items.size items.size hi - sIx items.size 0 lo)).toArray } })
    (hsz : items.size <= sizeLine) : wpAny (model prog w) A (getItem (.ref t) (.ref sl)) Q E s := by
  have htake : sizeOk (.seq ((items.toList.drop (sIx items.size 0 lo)).take (sIx items.size items.size hi - sIx items.size 0 lo)).toArray) := by
    show ((items.toList.drop (sIx items.size 0 lo)).take (sIx items.size items.size hi - sIx items.size 0 lo)).toArray.size <= sizeLine
    rw [List.size_toArray, List.length_take, List.length_drop, Array.length_toList]
    omega
  have hj : sIx items.size items.size hi <= items.size := sIx_le _ _ (Nat.le_refl _) hi
  obtain ⟨os, hos, hcs, hds⟩ := id hs
  have hTs : s.TypeIs (.ref sl) "slice" := ⟨os, hos, hcs⟩
  unfold getItem
  try with_reducible refine wpAny_holding ?_
  first | refine wpAny_bind (wpAny_pure ?_) | skip
  refine wpAny_bind (wpAny_sequenceKey ht.typeIs (by decide) ?_)
  refine wpAny_bind (wpAny_callSpecial?_slot (name := Str.ofString "__getitem__") ht.typeIs PyProof.Rows.slot_tuple_getitem
    (wpAny_call_entry PyProof.Rows.slot_tuple_getitem ht.typeIs entry_tuple_getitem ?_ (args_tuple_getitem _ _)))
  show wpAny _ _ (Builtin.Tuple.tupleItemsOf (.ref t) >>= _) _ _ s
  refine wpAny_bind (tupleItemsOf_ ht ?_)
  refine wpAny_bind (wpAny_typeOf hTs ?_)
  rw [if_pos (by decide)]
  refine wpAny_bind (sliceApplied_gen hs pl pu ?_)
  have hno : ¬ ((((sIx items.size 0 lo : Nat) : Int) == 0 && (1 : Int) == 1 && (sIx items.size items.size hi - sIx items.size 0 lo) == items.size) = true) := by
    intro q
    rw [Bool.and_eq_true, Bool.and_eq_true] at q
    have q1 : ((sIx items.size 0 lo : Nat) : Int) = 0 := eq_of_beq q.1.1
    have q2 : sIx items.size items.size hi - sIx items.size 0 lo = items.size := eq_of_beq q.2
    exact hw ⟨by omega, by omega⟩
  show wpAny _ _ (if (((sIx items.size 0 lo : Nat) : Int) == 0 && (1 : Int) == 1 && (sIx items.size items.size hi - sIx items.size 0 lo) == items.size) = true then _ else _) _ _ s
  rw [if_neg hno, pick_gen]
  first
    | exact wpAny_bind (m := Builtin.Tuple.tupleExact _) (wpAny_newObj_type (wpAny_pure ⟨_, rfl, wpAny_pure h⟩) htake)
    | exact wpAny_bind (m := Builtin.Tuple.tupleExact _) (wpAny_newObj_type (wpAny_bind (wpAny_pure (wpAny_pure ⟨_, rfl, wpAny_pure h⟩))) htake)
    | exact wpAny_bind (wpAny_bind (m := Builtin.Tuple.tupleExact _) (wpAny_newObj_type (wpAny_pure (wpAny_pure ⟨_, rfl, wpAny_pure h⟩)) htake))
    | exact wpAny_bind (wpAny_bind (m := Builtin.Tuple.tupleExact _) (wpAny_newObj_type (wpAny_pure ⟨_, rfl, wpAny_pure h⟩) htake))
end
end HT
namespace L2
open PySem PySem.Spec PyProof.Rows
abbrev TO := St -> Hp -> (Option Int -> Hp -> Prop) -> Prop
def PO (X : Cx) (e : Option Expr) (t : TO) : Prop :=
  ∀ (pins : List (Addr × Obj)) (s : Shared) (σ : St) (H : Hp) (Q : Option Int -> Hp -> Prop), Inv X pins σ H s -> t σ H Q ->
    wpAny (model X.prog X.w) X.A (evalPart e X.env) (fun u s' => ∃ o H', Inv X pins σ H' s' /\ IsPart u o /\ Q o H') X.xe s
def tNoPart : TO := fun _ H Q => Q none H
def tPart (t : TE) : TO := fun σ H Q => t σ H fun x H1 => ∃ i, x = .int i /\ Q (some i) H1
section
variable {X : Cx} {e : Expr} {te : TE} {lo hi : Option Expr} {tl th : TO} {pos p2 : Pos}
theorem po_none : PO X none tNoPart := by
  intro pins s σ H Q I h
  rw [evalPart_none]
  exact wpAny_pure ⟨none, H, I, .none, h⟩
theorem po_some (h : PE X e te) : PO X (some e) (tPart te) := by
  intro pins s σ H Q I hw
  rw [evalPart_some]
  refine thn (h pins s σ H _ I hw) fun u s1 ⟨x, H1, I1, r1, q1⟩ => ?_
  obtain ⟨i, rfl, q⟩ := q1
  obtain ⟨t, rfl⟩ := r1
  exact ⟨some i, H1, I1, .int i t, q⟩
def SlR (X : Cx) (r : V -> Option Int -> Option Int -> Hp -> VK -> Prop) : Prop :=
  ∀ (pins : List (Addr × Obj)) (s : Shared) (σ : St) (H : Hp) (x : V) (v vl vu : Value) (lo hi : Option Int) (sl : Addr) (Q : VK), Inv X pins σ H s -> RelV x v -> s.heap.IsSliceOf sl vl vu .none -> IsPart vl lo -> IsPart vu hi -> r x lo hi H Q ->
    ∃ T id, typeLookup (.type T) "__getitem__" = pure (some (.builtin id)) /\ s.TypeIs v T /\ wpAny (model X.prog X.w) X.A (getItem v (.ref sl)) (EP X pins σ Q) X.xe s
def tSl (r : V -> Option Int -> Option Int -> Hp -> VK -> Prop) (te : TE) (tl th : TO) : TE := fun σ H Q => te σ H fun x H1 => tl σ H1 fun l H2 => th σ H2 fun u H3 => r x l u H3 Q
theorem pe_slice {r : V -> Option Int -> Option Int -> Hp -> VK -> Prop} (hr : SlR X r) (he : PE X e te) (hl : PO X lo tl) (hu : PO X hi th) : PE X (.Subscript e (.Slice lo hi none p2) pos) (tSl r te tl th) := by
  intro pins s σ H Q I h
  refine Subscript_ (thn (he pins s σ H _ I h) fun v s1 ⟨x, H1, I1, r1, q1⟩ => ?_)
  refine wpAny_Slice (thn (hl pins s1 σ H1 _ I1 q1) fun vl s2 ⟨l, H2, I2, pl, q2⟩ => thn (hu pins s2 σ H2 _ I2 q2) fun vu s3 ⟨u, H3, I3, pu, q3⟩ => ?_)
  rw [evalPart_none]
  refine wpAny_pure ?_
  have I4 : Inv X pins σ H3 { s3 with heap := s3.heap.push { cls := .type "slice", data := .fields #[vl, vu, .none] } } := I3.kept (t' := s3.toks) fun b ob q => Heap.get?_push_of_some _ q
  obtain ⟨T, id, hT, ht, hg⟩ := hr pins { s3 with heap := s3.heap.push { cls := .type "slice", data := .fields #[vl, vu, .none] } } σ H3 x v vl vu l u s3.heap.objs.size Q I4 r1 (Heap.IsSliceOf.new ..) pl pu q3
  show wpAny (model X.prog X.w) X.A (subscriptTail e (.Slice lo hi none p2) v (.ref s3.heap.objs.size)) (EP X pins σ Q) X.xe { s3 with heap := s3.heap.push { cls := .type "slice", data := .fields #[vl, vu, .none] } }
  exact tail_any (ops := [.ref s3.heap.objs.size, v]) ht hT hg (by with_unfolding_all rfl)
def cutV (xs : List V) (lo hi : Option Int) : List V := (xs.drop (HT.sIx xs.length 0 lo)).take (HT.sIx xs.length xs.length hi - HT.sIx xs.length 0 lo)
theorem cutV_length (xs : List V) (lo hi : Option Int) : (cutV xs lo hi).length <= xs.length := by
  unfold cutV
  rw [List.length_take, List.length_drop]
  omega
def rSlT (K : PySem.W.Frag) : V -> Option Int -> Option Int -> Hp -> VK -> Prop := fun x lo hi H Q => ∃ a xs, x = .ref a /\ SqT K H a xs /\
  ¬ (HT.sIx xs.length 0 lo = 0 /\ HT.sIx xs.length xs.length hi = xs.length) /\ ∀ p, H p = none -> Q (.ref p) (upd H p (.tup (cutV xs lo hi)))
theorem sl_tup : SlR X (rSlT X.K) := by
  intro pins s σ H x v vl vu lo hi sl Q I rx hs pl pu h
  obtain ⟨a, xs, rfl, hx, hw, q⟩ := h
  cases rx
  obtain ⟨its, r, ht, hz⟩ := I.tuple hx
  have hlen : its.toArray.size = xs.length := by rw [List.size_toArray]; exact r.length.symm
  refine ⟨"tuple", _, PyProof.Rows.slot_tuple_getitem.lookup, ht.typeIs, ?_⟩
  refine HT.getItem_tuple_cut ht hs pl pu (by rw [hlen]; exact hw) ?_ (by rw [hlen]; exact hz)
  rw [hlen]
  refine ⟨.ref s.heap.objs.size, _, I.laid (t' := s.toks) (o := .tup (cutV xs lo hi)) (fun b ob q => Heap.get?_push_of_some _ q) (Nat.le_refl _) ?_, rfl, q _ (I.hok.fresh (Nat.le_refl _))⟩
  exact ⟨Nat.le_trans (cutV_length xs lo hi) hz, _, (r.drop (HT.sIx xs.length 0 lo)).take (HT.sIx xs.length xs.length hi - HT.sIx xs.length 0 lo), IsTup.new _ _⟩
def rCatT (K : PySem.W.Frag) : R2 := fun x y H Q => ∃ a b xs ys, x = .ref a /\ y = .ref b /\ SqT K H a xs /\ SqT K H b ys /\ xs ≠ [] /\ xs.length + ys.length <= sizeLine /\
  (ys = [] -> Q (.ref a) H) /\ (ys ≠ [] -> ∀ p, H p = none -> Q (.ref p) (upd H p (.tup (xs ++ ys))))
theorem Vals.nil_iff {xs : List V} {us : List Value} (r : Vals xs us) : us = [] ↔ xs = [] := by
  cases r with
  | nil => simp
  | cons _ _ => simp
theorem op_catT : OpR X (binaryOp .Add) (rCatT X.K) := by
  intro pins s σ H x y v u Q I rx ry h
  obtain ⟨a, b, xs, ys, rfl, rfl, ha, hb, hx, hz, q1, q2⟩ := h
  cases rx
  cases ry
  obtain ⟨its, r1, p1, _⟩ := I.tuple ha
  obtain ⟨its2, r2, p2, _⟩ := I.tuple hb
  refine HT.cat_tup p1 p2 (fun z => hx (r1.nil_iff.mp z)) (fun z => ⟨.ref a, H, I, rfl, q1 (r2.nil_iff.mp z)⟩) (fun z => ?_) (by rw [<- r1.length, <- r2.length]; exact hz)
  refine ⟨.ref s.heap.objs.size, _, I.laid (t' := s.toks) (o := .tup (xs ++ ys)) (fun b ob q => Heap.get?_push_of_some _ q) (Nat.le_refl _) ?_, rfl, q2 (fun w => z (r2.nil_iff.mpr w)) _ (I.hok.fresh (Nat.le_refl _))⟩
  exact ⟨by rw [List.length_append]; exact hz, _, r1.append r2, IsTup.new _ _⟩
end
end L2
namespace L2
open PySem PySem.Spec PyProof.Rows
def ixN (n : Nat) (i : Int) : Option Nat := if 0 <= i then (if i < n then some i.toNat else none) else if -(n : Int) <= i then some (i + n).toNat else none
def atI {α : Type} (xs : List α) (i : Int) : Option α := (ixN xs.length i).bind fun j => xs[j]?
theorem ixN_seq {n : Nat} {i : Int} {j : Nat} (h : ixN n i = some j) : seqIndex? i n = some j /\ j < n /\ -(n : Int) <= i /\ i < n := by
  unfold ixN at h
  by_cases h0 : 0 <= i
  · rw [if_pos h0] at h
    by_cases h1 : i < n
    · rw [if_pos h1] at h
      have e : i.toNat = j := Option.some.inj h
      exact ⟨by rw [seqIndex_of h0 h1, e], by omega, by omega, h1⟩
    · rw [if_neg h1] at h; cases h
  · rw [if_neg h0] at h
    by_cases h1 : -(n : Int) <= i
    · rw [if_pos h1] at h
      have e : (i + n).toNat = j := Option.some.inj h
      exact ⟨by rw [seqIndex_neg (by omega) h1, e], by omega, h1, by omega⟩
    · rw [if_neg h1] at h; cases h
theorem atI_get {α : Type} {xs : List α} {i : Int} {v : α} (h : atI xs i = some v) : ∃ j, seqIndex? i xs.length = some j /\ xs[j]? = some v /\ j < xs.length /\ -(xs.length : Int) <= i /\ i < xs.length := by
  unfold atI at h
  cases e : ixN xs.length i with
  | none => rw [e] at h; cases h
  | some j =>
    rw [e] at h
    obtain ⟨h1, h2, h3, h4⟩ := ixN_seq e
    exact ⟨j, h1, h, h2, h3, h4⟩
theorem atI_nat {α : Type} {xs : List α} {j : Nat} {v : α} (h : xs[j]? = some v) : atI xs (j : Int) = some v := by
  have hj : j < xs.length := (List.getElem?_eq_some_iff.mp h).1
  have e : ixN xs.length (j : Int) = some j := by
    unfold ixN
    rw [if_pos (by omega), if_pos (by omega)]; simp
  unfold atI; rw [e]; exact h
def PlainIx (b : Expr) : Prop := ∀ o i, subscripted b false o i = operate [o, i] (getItem o i)
def IxR (X : Cx) (r : R2) : Prop :=
  ∀ (value slice : Expr) (pins : List (Addr × Obj)) (s : Shared) (σ : St) (H : Hp) (x y : V) (v u : Value) (Q : VK), Inv X pins σ H s -> RelV x v -> RelV y u -> r x y H Q ->
    subscripted slice false v u = operate [v, u] (getItem v u) -> wpAny (model X.prog X.w) X.A (subscriptTail value slice v u) (EP X pins σ Q) X.xe s
def MtR (X : Cx) (id : String) (r : V -> List V -> Hp -> VK -> Prop) : Prop :=
  ∀ (pins : List (Addr × Obj)) (s : Shared) (σ : St) (H : Hp) (x : V) (xs : List V) (v : Value) (us : List Value) (Q : VK), Inv X pins σ H s -> RelV x v -> Vals xs us -> r x xs H Q ->
    wpAny (model X.prog X.w) X.A (call (.builtin id) (v :: us)) (EP X pins σ Q) X.xe s
section
variable {X : Cx} {a b : Expr} {ta tb : TE} {pos : Pos}
theorem IxR.or {r r' : R2} (h : IxR X r) (h' : IxR X r') : IxR X (fun x y H Q => r x y H Q ∨ r' x y H Q) := by
  intro value slice pins s σ H x y v u Q I rx ry q hs
  rcases q with q | q
  · exact h value slice pins s σ H x y v u Q I rx ry q hs
  · exact h' value slice pins s σ H x y v u Q I rx ry q hs
theorem pe_ix {r : R2} (hr : IxR X r) (ha : PE X a ta) (hb : PE X b tb) (hs : PlainIx b) : PE X (.Subscript a b pos) (tOp r ta tb) := by
  intro pins s σ H Q I h
  exact Subscript_ (binT ha hb I h fun v u s2 x y H2 I2 rx ry q => hr a b pins s2 σ H2 x y v u Q I2 rx ry q (hs _ _))
def rIxL (K : PySem.W.Frag) : R2 := fun x y H Q => ∃ p xs i v, x = .ref p /\ y = .int i /\ SqL K H p xs /\ atI xs i = some v /\ Q v H
def rIxT (K : PySem.W.Frag) : R2 := fun x y H Q => ∃ p xs i v, x = .ref p /\ y = .int i /\ SqT K H p xs /\ atI xs i = some v /\ Q v H
theorem ix_list : IxR X (rIxL X.K) := by
  intro value slice pins s σ H x y v u Q I rx ry h hs
  obtain ⟨p, xs, i, z, rfl, rfl, hq, he, q⟩ := h
  cases rx
  obtain ⟨t, rfl⟩ := ry
  obtain ⟨its, r, pl, hz⟩ := I.list hq
  obtain ⟨j, h1, h2, h3, h4, h5⟩ := atI_get he
  obtain ⟨w, ew, rw'⟩ := r.get h2
  have hl := r.length
  have hn := line63
  have fin : EP X pins σ Q w s := ⟨z, H, I, rw', q⟩
  by_cases h0 : 0 <= i
  · have hj : i.toNat = j := by
      rw [seqIndex_of h0 h5] at h1
      exact Option.some.inj h1
    exact item_listR pl.isList h0 (by omega) (by rw [hj]; simpa using ew) fin hs
  · have hj : (i + (its.toArray.size : Int)).toNat = j := by
      rw [seqIndex_neg (by omega) h4] at h1
      rw [List.size_toArray, <- hl]
      exact Option.some.inj h1
    exact subscriptTail_builtinR (x := w) pl.isList.typeIs slot_list_getitem.lookup
      (wpAny_getItem_list_neg (Q := fun r s' => r = w /\ EP X pins σ Q r s') pl.isList (by omega) (by rw [List.size_toArray] <;> omega) (by omega) (by rw [hj]; simpa using ew) ⟨rfl, fin⟩) hs
theorem ix_tup : IxR X (rIxT X.K) := by
  intro value slice pins s σ H x y v u Q I rx ry h hs
  obtain ⟨p, xs, i, z, rfl, rfl, hq, he, q⟩ := h
  cases rx
  obtain ⟨t, rfl⟩ := ry
  obtain ⟨its, r, pl, hz⟩ := I.tuple hq
  obtain ⟨j, h1, h2, h3, h4, h5⟩ := atI_get he
  obtain ⟨w, ew, rw'⟩ := r.get h2
  have hl := r.length
  have hn := line63
  have fin : EP X pins σ Q w s := ⟨z, H, I, rw', q⟩
  exact subscriptTail_builtinR (x := w) pl.typeIs slot_tuple_getitem.lookup
    (getItem_tuple (j := j) (Q := fun r s' => r = w /\ EP X pins σ Q r s') pl (by omega) (by omega) (by rw [List.size_toArray, <- hl]; exact h1) (by simpa using ew) ⟨rfl, fin⟩) hs
theorem mapSeq_set (its : List Value) (n j : Nat) (u : Value) : Obj.mapSeq (·.setIfInBounds j u) { cls := .type "list", data := .seq its.toArray n } = { cls := .type "list", data := .seq (its.set j u).toArray n } := by
  simp [Obj.mapSeq]
theorem Inv.lst {pins : List (Addr × Obj)} {σ : St} {H : Hp} {s : Shared} {p : Addr} {xs : List V} (I : Inv X pins σ H s) (h : H p = some (.lst xs)) :
    ∃ (its : List Value) (n : Nat), Vals xs its /\ s.heap.get? p = some { cls := .type "list", data := .seq its.toArray n } /\ xs.length <= sizeLine := by
  obtain ⟨z, its, n, r, e⟩ := I.hok p _ h
  exact ⟨its, n, r, e, z⟩
theorem Inv.lstUpd {pins : List (Addr × Obj)} {σ : St} {H : Hp} {s : Shared} {p : Addr} {xs ys : List V} {its its' : List Value} {n n' : Nat} {f : Obj -> Obj} (I : Inv X pins σ H s) (h : H p = some (.lst xs))
    (ho : s.heap.get? p = some { cls := .type "list", data := .seq its.toArray n }) (hf : f { cls := .type "list", data := .seq its.toArray n } = { cls := .type "list", data := .seq its'.toArray n' }) (r : Vals ys its') (hz : ys.length <= sizeLine) (t : Nat) :
    Inv X pins σ (upd H p (.lst ys)) { s with heap := s.heap.update p f, toks := t } := by
  have e : (s.heap.update p f).get? p = some { cls := .type "list", data := .seq its'.toArray n' } := by
    rw [Heap.get?_update_self f ho (by rw [hf] <;> rfl), hf]
  refine I.write (x := p) (e := p) (by rw [h]; trivial) (.inl rfl) (fun b u hb q => (Heap.get?_update_other _ _ (Ne.symm hb)).trans q) ⟨_, e⟩ ?_
  exact ⟨hz, its', n', r, e⟩
def rSetL : V -> V -> V -> Hp -> (Hp -> Prop) -> Prop := fun o i v H Q => ∃ p xs k j, o = .ref p /\ i = .int k /\ H p = some (.lst xs) /\ ixN xs.length k = some j /\ Q (upd H p (.lst (xs.set j v)))
theorem set_list : PSet X rSetL := by
  intro pins s σ H o i v ov iv u Q I ro ri rv h
  obtain ⟨p, xs, k, j, rfl, rfl, hp, hj, q⟩ := h
  cases ro
  obtain ⟨t, rfl⟩ := ri
  obtain ⟨its, n, r, ho, hz⟩ := I.lst hp
  obtain ⟨h1, h2, h3, h4⟩ := ixN_seq hj
  have hl := r.length
  have hn := line63
  have I' : Inv X pins σ (upd H p (.lst (xs.set j v))) { s with heap := s.heap.update p (Obj.mapSeq (·.setIfInBounds j u)) } :=
    I.lstUpd hp ho (mapSeq_set its n j u) (r.set rv j) (by rw [List.length_set]; exact hz) s.toks
  by_cases h0 : 0 <= k
  · have hk : k.toNat = j := by
      rw [seqIndex_of h0 h4] at h1
      exact Option.some.inj h1
    exact PySem.W.ki_setAt ho h0 (by omega) (by rw [List.size_toArray, <- hl]; exact h4) (by rw [hk]; exact ⟨_, I', q⟩)
  · have hk : (k + (its.toArray.size : Int)).toNat = j := by
      rw [seqIndex_neg (by omega) h3] at h1
      rw [List.size_toArray, <- hl]
      exact Option.some.inj h1
    exact PySem.W.ki_setBack ho (by omega) (by rw [List.size_toArray, <- hl]; exact h3) (by omega) (by rw [hk]; exact ⟨_, I', q⟩)
theorem slice_bounds (lo hi : Option Int) (n : Nat) : (sliceBounds lo hi none n).1 = ((HT.sIx n 0 lo : Nat) : Int) /\ (sliceBounds lo hi none n).2.1 = ((HT.sIx n n hi : Nat) : Int) /\ (sliceBounds lo hi none n).2.2 = 1 := by
  refine ⟨?_, ?_, rfl⟩
  · cases lo with
    | none => simp [sliceBounds, HT.sIx]
    | some i =>
      simp only [sliceBounds, HT.sIx, Option.getD_none, show (1 : Int) > 0 by decide, if_true]
      by_cases h : i < 0
      · simp only [h, if_true] <;> omega
      · simp only [h, if_false] <;> omega
  · cases hi with
    | none => simp [sliceBounds, HT.sIx]
    | some i =>
      simp only [sliceBounds, HT.sIx, Option.getD_none, show (1 : Int) > 0 by decide, if_true]
      by_cases h : i < 0
      · simp only [h, if_true] <;> omega
      · simp only [h, if_false] <;> omega
theorem slicePick_cut (its : List Value) (lo hi : Option Int) : slicePick its.toArray lo hi none = ((its.drop (HT.sIx its.length 0 lo)).take (HT.sIx its.length its.length hi - HT.sIx its.length 0 lo)).toArray := by
  obtain ⟨h1, h2, h3⟩ := slice_bounds lo hi its.toArray.size
  unfold slicePick
  rw [h1, h2, h3]
  simp only [sliceRange_one, pick_run, List.size_toArray] <;> rfl
def rSlL (K : PySem.W.Frag) : V -> Option Int -> Option Int -> Hp -> VK -> Prop := fun x lo hi H Q => ∃ a xs, x = .ref a /\ SqL K H a xs /\ ∀ p, H p = none -> Q (.ref p) (upd H p (.lst (cutV xs lo hi)))
theorem sl_list : SlR X (rSlL X.K) := by
  intro pins s σ H x v vl vu lo hi sl Q I rx hs pl pu h
  obtain ⟨a, xs, rfl, hx, q⟩ := h
  cases rx
  obtain ⟨its, r, ht, hz⟩ := I.list hx
  have hlen := r.length
  refine ⟨"list", _, slot_list_getitem.lookup, ht.isList.typeIs, ?_⟩
  refine wpAny_getItem_list_slice ht.isList hs pl pu .none (by simp) ?_ (by rw [List.size_toArray] <;> omega)
  rw [slicePick_cut, <- hlen]
  refine ⟨.ref s.heap.objs.size, _, I.laid (t' := s.toks) (o := .lst (cutV xs lo hi)) (fun b ob q => Heap.get?_push_of_some _ q) (Nat.le_refl _) ?_, rfl, q _ (I.hok.fresh (Nat.le_refl _))⟩
  exact ⟨Nat.le_trans (cutV_length xs lo hi) hz, _, 0, (r.drop (HT.sIx xs.length 0 lo)).take (HT.sIx xs.length xs.length hi - HT.sIx xs.length 0 lo), Heap.get?_push_size _ rfl⟩
def flatV : V -> Bool
  | .non => true
  | .bl _ => true
  | .int _ => true
  | .str _ => true
  | _ => false
def eqV : V -> V -> Bool
  | .non, .non => true
  | .bl a, .bl b => a == b
  | .bl a, .int b => (if a then 1 else 0) == b
  | .int a, .bl b => a == (if b then 1 else 0)
  | .int a, .int b => a == b
  | .str a, .str b => a == b
  | _, _ => false
theorem eqAt_V {A : Around} {s : Shared} {y x : V} {u v : Value} (ry : RelV y u) (rx : RelV x v) (fy : flatV y = true) (fx : flatV x = true) : SeqAt.EqAt A s u v (eqV y x) := by
  cases y with
  | non =>
    cases ry
    cases x with
    | non => cases rx; exact SeqAt.EqAt.same _
    | bl b => cases rx; exact SeqAt.EqAt.none_bool b
    | int b => obtain ⟨t, rfl⟩ := rx; exact SeqAt.EqAt.none_int b t
    | str b => obtain ⟨t, rfl⟩ := rx; exact SeqAt.EqAt.none_str b t
    | _ => exact absurd (show false = true from fx) Bool.false_ne_true
  | bl a =>
    cases ry
    cases x with
    | non => cases rx; exact SeqAt.EqAt.bool_none a
    | bl b => cases rx; exact SeqAt.EqAt.bool_bool a b
    | int b => obtain ⟨t, rfl⟩ := rx; exact SeqAt.EqAt.bool_int a b t
    | str b => obtain ⟨t, rfl⟩ := rx; exact SeqAt.EqAt.bool_str a b t
    | _ => exact absurd (show false = true from fx) Bool.false_ne_true
  | int a =>
    obtain ⟨t', rfl⟩ := ry
    cases x with
    | non => cases rx; exact SeqAt.EqAt.int_none a t'
    | bl b => cases rx; exact SeqAt.EqAt.int_bool a t' b
    | int b => obtain ⟨t, rfl⟩ := rx; exact SeqAt.EqAt.int_int a t' b t
    | str b => obtain ⟨t, rfl⟩ := rx; exact SeqAt.EqAt.int_str a t' b t
    | _ => exact absurd (show false = true from fx) Bool.false_ne_true
  | str a =>
    obtain ⟨t', rfl⟩ := ry
    cases x with
    | non => cases rx; exact SeqAt.EqAt.str_none a t'
    | bl b => cases rx; exact SeqAt.EqAt.str_bool a t' b
    | int b => obtain ⟨t, rfl⟩ := rx; exact SeqAt.EqAt.str_int a t' b t
    | str b => obtain ⟨t, rfl⟩ := rx; exact SeqAt.EqAt.str_str a t' b t
    | _ => exact absurd (show false = true from fx) Bool.false_ne_true
  | _ => exact absurd (show false = true from fy) Bool.false_ne_true
def eqU (x : V) (u : Value) : Bool := match u with
  | .none => eqV .non x
  | .bool b => eqV (.bl b) x
  | .int i _ => eqV (.int i) x
  | .str z _ => eqV (.str z) x
  | _ => false
theorem eqU_of {x y : V} {u : Value} (r : RelV y u) (f : flatV y = true) : eqU x u = eqV y x := by
  cases y with
  | non => cases r; rfl
  | bl b => cases r; rfl
  | int i => obtain ⟨t, rfl⟩ := r; rfl
  | str z => obtain ⟨t, rfl⟩ := r; rfl
  | _ => exact absurd (show false = true from f) Bool.false_ne_true
theorem any_eqU {x : V} : ∀ {xs : List V} {us : List Value}, Vals xs us -> xs.all flatV = true -> us.any (eqU x) = xs.any fun y => eqV y x
  | _, _, .nil, _ => rfl
  | y :: xs, u :: us, .cons r t, f => by
    rw [List.all_cons, Bool.and_eq_true] at f
    rw [List.any_cons, List.any_cons, eqU_of r f.1, any_eqU t f.2]
theorem mem_eqAt {A : Around} {s : Shared} {x : V} {v : Value} (rx : RelV x v) (fx : flatV x = true) : ∀ {xs : List V} {us : List Value}, Vals xs us -> xs.all flatV = true -> ∀ u ∈ us, SeqAt.EqAt A s u v (eqU x u)
  | _, _, .nil, _ => fun u hu => by cases hu
  | y :: xs, u :: us, .cons r t, f => fun u' hu => by
    rw [List.all_cons, Bool.and_eq_true] at f
    rcases List.mem_cons.mp hu with rfl | hu
    · rw [eqU_of r f.1]; exact eqAt_V r rx f.1 fx
    · exact mem_eqAt rx fx t f.2 u' hu
def inV (x : V) (xs : List V) : Bool := xs.any fun y => eqV y x
def rIn (K : PySem.W.Frag) (neg : Bool) : R2 := fun x y H Q => ∃ p xs, y = .ref p /\ (SqL K H p xs ∨ SqT K H p xs) /\ flatV x = true /\ xs.all flatV = true /\ Q (.bl (if neg then !inV x xs else inV x xs)) H
theorem op_notIn_seq : OpR X (compareOp .NotIn) (rIn X.K true) := by
  intro pins s σ H x y v u Q I rx ry h
  obtain ⟨p, xs, rfl, hq, fx, fs, q⟩ := h
  cases ry
  rcases hq with hq | hq
  · obtain ⟨its, r, pl, hz⟩ := I.list hq
    refine SeqAt.notIn_listAt (eqU x) pl.isList (fun w hw => mem_eqAt rx fx r fs w (by simpa using hw)) ⟨.bl _, H, I, rfl, ?_⟩
    rw [show its.toArray.any (eqU x) = its.any (eqU x) by simp, any_eqU r fs]
    exact q
  · obtain ⟨its, r, pl, hz⟩ := I.tuple hq
    refine SeqAt.notIn_tupleAt (eqU x) pl (fun w hw => mem_eqAt rx fx r fs w (by simpa using hw)) ⟨.bl _, H, I, rfl, ?_⟩
    rw [show its.toArray.any (eqU x) = its.any (eqU x) by simp, any_eqU r fs]
    exact q
theorem call_len_seq : CallR X (.builtin "len") (fun xs H Q => ∃ p ys, xs = [.ref p] /\ (SqL X.K H p ys ∨ SqT X.K H p ys) /\ Q (.int ys.length) H) := by
  intro pins s σ H xs us Q I r h
  obtain ⟨p, ys, rfl, hq, q⟩ := h
  obtain ⟨u, rfl, rx⟩ := vals1 r
  cases rx
  have hn := line63
  rcases hq with hq | hq
  · obtain ⟨its, r', pl, hz⟩ := I.list hq
    have hlen := r'.length
    exact Calls.call_len_list pl.isList (by simp only [List.size_toArray] <;> omega) ⟨.int ys.length, H, I.tok _, ⟨s.toks + 1, by rw [List.size_toArray, hlen]⟩, q⟩
  · obtain ⟨its, r', pl, hz⟩ := I.tuple hq
    have hlen := r'.length
    exact len_tuple pl (by simp only [List.size_toArray] <;> omega) ⟨.int ys.length, H, I.tok _, ⟨s.toks + 1, by rw [List.size_toArray, hlen]⟩, q⟩
theorem CallR.or {f : Value} {r r' : List V -> Hp -> VK -> Prop} (h : CallR X f r) (h' : CallR X f r') : CallR X f (fun xs H Q => r xs H Q ∨ r' xs H Q) := by
  intro pins s σ H xs us Q I rs q
  rcases q with q | q
  · exact h pins s σ H xs us Q I rs q
  · exact h' pins s σ H xs us Q I rs q
theorem call_list_of : CallR X (.type "list") (fun xs H Q => ∃ p ys, xs = [.ref p] /\ (SqL X.K H p ys ∨ SqT X.K H p ys) /\ ∀ l, H l = none -> Q (.ref l) (upd H l (.lst ys))) := by
  intro pins s σ H xs us Q I r h
  obtain ⟨p, ys, rfl, hq, q⟩ := h
  obtain ⟨u, rfl, rx⟩ := vals1 r
  cases rx
  have fin : ∀ (its : List Value), Vals ys its -> ys.length <= sizeLine -> ∀ (h' : Heap) (c' : Nat), (∀ b o', s.heap.get? b = some o' -> h'.get? b = some o') ->
      h'.get? s.heap.objs.size = some { cls := .type "list", dict := none, data := .seq its.toArray c', slots := #[] } -> EP X pins σ Q (.ref s.heap.objs.size) { s with heap := h' } := fun its r' hz h' c' kp e =>
    ⟨.ref s.heap.objs.size, _, I.laid (t' := s.toks) kp (Nat.le_refl _) (show ObjOk X.prog X.w _ h' _ (.lst ys) from ⟨hz, its, c', r', e⟩), rfl, q _ (I.hok.fresh (Nat.le_refl _))⟩
  rcases hq with hq | hq
  · obtain ⟨its, r', pl, hz⟩ := I.list hq
    have hlen := r'.length
    obtain ⟨o, ho, hc, n, hd⟩ := pl.isList
    exact call_list_seq p (.inl rfl) ho hc hd (fun h' c' kp e => fin its r' hz h' c' kp e) (by simp only [List.size_toArray] <;> omega)
  · obtain ⟨its, r', pl, hz⟩ := I.tuple hq
    have hlen := r'.length
    obtain ⟨o, ho, hc, n, hd⟩ := pl
    exact call_list_seq p (.inr rfl) ho hc hd (fun h' c' kp e => fin its r' hz h' c' kp e) (by simp only [List.size_toArray] <;> omega)
theorem call_tuple_of : CallR X (.type "tuple") (fun xs H Q => ∃ p ys, xs = [.ref p] /\ ((SqL X.K H p ys /\ ∀ l, H l = none -> Q (.ref l) (upd H l (.tup ys))) ∨ (SqT X.K H p ys /\ Q (.ref p) H))) := by
  intro pins s σ H xs us Q I r h
  obtain ⟨p, ys, rfl, h⟩ := h
  obtain ⟨u, rfl, rx⟩ := vals1 r
  cases rx
  rcases h with ⟨hq, q⟩ | ⟨hq, q⟩
  · obtain ⟨its, r', pl, hz⟩ := I.list hq
    have hlen := r'.length
    refine call_tuple_list pl.isList (fun h' kp => ?_) (by simp only [List.size_toArray] <;> omega)
    have I1 : Inv X pins σ H { s with heap := h' } := I.kept (t' := s.toks) kp
    have I2 : Inv X pins σ (upd H h'.objs.size (.tup ys)) { s with heap := h'.push { cls := .type "tuple", data := .seq its.toArray } } :=
      I1.laid (t' := s.toks) (fun b o e => Heap.get?_push_of_some _ e) (Nat.le_refl _) (show ObjOk X.prog X.w _ _ _ (.tup ys) from ⟨hz, its, r', IsTup.new _ _⟩)
    exact ⟨.ref h'.objs.size, _, I2, rfl, q _ (I1.hok.fresh (Nat.le_refl _))⟩
  · obtain ⟨its, r', pl, hz⟩ := I.tuple hq
    exact call_tuple_same pl ⟨.ref p, H, I, rfl, q⟩
def tyV (K : PySem.W.Frag) (T : String) (x : V) (H : Hp) : Prop := match x with
  | .str _ => T = "str"
  | .int _ => T = "int"
  | .ref p => (T = "list" /\ ∃ xs, SqL K H p xs) ∨ (T = "tuple" /\ ∃ o, K.lookup p = some o /\ o.cls = .type "tuple" /\ o.dict = none) ∨
      (T = "dict" /\ ((∃ kvs, H p = some (.dK kvs)) ∨ ∃ kvs, H p = some (.dT kvs))) ∨ (T = "set" /\ ∃ S n, H p = some (.set S n))
  | _ => False
theorem tyV_is {pins : List (Addr × Obj)} {σ : St} {H : Hp} {s : Shared} {T : String} {x : V} {v : Value} (I : Inv X pins σ H s) (r : RelV x v) (ty : tyV X.K T x H) :
    s.TypeIs v T /\ ∀ a, v = .ref a -> ∃ ob, s.heap.get? a = some ob /\ ob.dict = none := by
  cases x with
  | str z =>
    obtain ⟨t, rfl⟩ := r
    cases (show T = "str" from ty)
    exact ⟨typeIs_str s z t, fun _ e => nomatch e⟩
  | int i =>
    obtain ⟨t, rfl⟩ := r
    cases (show T = "int" from ty)
    exact ⟨typeIs_int s i t, fun _ e => nomatch e⟩
  | ref p =>
    cases r
    rcases ty with ⟨rfl, xs, hq⟩ | ⟨rfl, o, hk, hc, hd⟩ | ⟨rfl, hk⟩ | ⟨rfl, S, n, hk⟩
    · obtain ⟨its, _, pl, _⟩ := I.list hq
      refine ⟨pl.isList.typeIs, fun a e => ?_⟩
      cases e
      obtain ⟨o, n, e, c, hd, _⟩ := pl
      exact ⟨o, e, hd⟩
    · refine ⟨⟨o, I.kIn p o hk, hc⟩, fun a e => ?_⟩
      cases e
      exact ⟨o, I.kIn _ o hk, hd⟩
    · have z : ∃ o, s.heap.get? p = some o /\ o.ExactDict := by
        rcases hk with ⟨kvs, hk⟩ | ⟨kvs, hk⟩
        · obtain ⟨_, _, _, _, o, _, _, e, ex, _⟩ := I.hok p _ hk
          exact ⟨o, e, ex⟩
        · obtain ⟨_, _, _, _, o, _, _, e, ex, _⟩ := I.hok p _ hk
          exact ⟨o, e, ex⟩
      obtain ⟨o, e, ex⟩ := z
      refine ⟨⟨o, e, ex.1⟩, fun a e2 => ?_⟩
      cases e2
      exact ⟨o, e, ex.2.1⟩
    · obtain ⟨o, _, _, _, e, ex, _⟩ := I.hok p _ hk
      refine ⟨⟨o, e, ex.1⟩, fun a e2 => ?_⟩
      cases e2
      exact ⟨o, e, ex.2.1⟩
  | _ => exact False.elim ty
def tBM (K : PySem.W.Frag) (T : String) (r : V -> List V -> Hp -> VK -> Prop) (to : TE) (t : TA) : TE := fun σ H Q => to σ H fun x H1 => tyV K T x H1 /\ t σ H1 fun xs H2 => r x xs H2 Q
variable {o e : Expr} {es : List Expr} {to : TE} {t : TA} {name : Str} {apos cpos : Pos} {T id : String} {r : V -> List V -> Hp -> VK -> Prop}
theorem pe_bm (pa : PlainAttrs T) (slot : Slot T name id) (hty : typeOf (.builtin id) = pure (.type "method_descriptor")) (hm : MtR X id r) (ho : PE X o to) (ha : PA X (e :: es) t)
    (hbase : attributeBase o name X.env (eval o X.env) = eval o X.env := by rfl)
    (hfew : ((backTo cpos (starEach (e :: es) X.env)).all (fun x => !x.1) && (backToKw cpos (keywordEach [] X.env)).all (fun x => x.1.isSome)
      && decide ((e :: es).length + ([] : List Keyword).length + (if ([] : List Keyword).isEmpty then 0 else 1) < 30)) = true := by rfl)
    (hline : (apos.endLine == cpos.line) = true := by rfl) (hs : starEach (e :: es) X.env = (false, eval e X.env) :: starEach es X.env := by rfl) (hplain : (backTo cpos (starEach es X.env)).any (·.1) = false := by rfl) :
    PE X (.Call (.Attribute o name apos) (e :: es) [] cpos) (tBM X.K T r to t) := by
  intro pins s σ H Q I h
  refine wpAny_Call_method_late hbase hfew hline rfl (thn (ho pins s σ H _ I h) fun v s1 ⟨x, H1, I1, r1, ty, q1⟩ => ?_)
  obtain ⟨h1, h2⟩ := tyV_is I1 r1 ty
  refine ⟨T, id, pa, slot, hty, h1, h2, ?_⟩
  have hA := ha cpos pins s1 σ H1 _ I1 q1
  rw [hs] at hA ⊢
  refine Calls.callWith_builtin (by show (false || (backTo cpos (starEach es X.env)).any (·.1)) = false; rw [hplain] <;> rfl) (Calls.evalArgs_plain ?_)
  exact thn hA fun us s2 ⟨vs, H2, I2, r2, q2⟩ => hm pins s2 σ H2 x vs v us Q I2 r1 r2 q2
end
end L2
namespace L2
open PySem PySem.Spec PyProof.Rows
def MtM (X : Cx) (id : String) (r : V -> List V -> Hp -> VK -> Prop) : Prop :=
  ∀ (pins : List (Addr × Obj)) (s : Shared) (σ : St) (H : Hp) (x : V) (xs : List V) (v : Value) (us : List Value) (Q : VK), Inv X pins σ H s -> RelV x v -> Vals xs us -> r x xs H Q ->
    wpAny (model X.prog X.w) X.A (call (.builtin id) (v :: us)) (EP X pins σ Q) X.xe s
theorem Vals.one : ∀ {x : V} {us : List Value}, Vals [x] us -> ∃ u, us = [u] /\ RelV x u
  | _, _, .cons r .nil => ⟨_, rfl, r⟩
theorem Vals.zero : ∀ {us : List Value}, Vals [] us -> us = []
  | _, .nil => rfl
theorem Vals.eraseIdx : ∀ {xs : List V} {us : List Value} (i : Nat), Vals xs us -> Vals (xs.eraseIdx i) (us.eraseIdx i)
  | _, _, _, .nil => .nil
  | _, _, 0, .cons _ t => t
  | _, _, i + 1, .cons r t => .cons r (Vals.eraseIdx i t)
theorem Vals.reverse {xs : List V} {us : List Value} (h : Vals xs us) : Vals xs.reverse us.reverse := by
  induction h with
  | nil => exact .nil
  | cons r t ih => rw [List.reverse_cons, List.reverse_cons]; exact Vals.append ih (.cons r .nil)
theorem len_erase {α : Type} : ∀ (l : List α) (i : Nat), (l.eraseIdx i).length <= l.length
  | [], _ => Nat.le_refl _
  | _ :: _, 0 => Nat.le_succ _
  | _ :: r, i + 1 => Nat.succ_le_succ (len_erase r i)
section
variable {X : Cx} {pins : List (Addr × Obj)} {σ : St} {H : Hp} {s : Shared} {l b : Addr} {xs ys zs : List V}
theorem Inv.lset {its its' : List Value} {n : Nat} {f : Array Value -> Array Value} {t' : Nat} (I : Inv X pins σ H s) (hH : H l = some (.lst xs))
    (e : s.heap.get? l = some { cls := .type "list", data := .seq its.toArray n }) (hf : f its.toArray = its'.toArray) (hv : Vals ys its') (hz : ys.length <= sizeLine) :
    Inv X pins σ (upd H l (.lst ys)) { s with heap := s.heap.update l (Obj.mapSeq f), toks := t' } := by
  have q := PySem.IsL.update e f
  rw [hf] at q
  refine I.write (x := l) (e := l) (by rw [hH]; exact trivial) (.inl rfl) (fun b' u hb hu => (Heap.get?_update_other s.heap (Obj.mapSeq f) (Ne.symm hb)).trans hu) ⟨_, q⟩ ?_
  exact ⟨hz, its', _, hv, q⟩
theorem Inv.lnew {its : List Value} {t' : Nat} (I : Inv X pins σ H s) (hv : Vals ys its) (hz : ys.length <= sizeLine) :
    Inv X pins σ (upd H s.heap.objs.size (.lst ys)) { s with heap := s.heap.push { cls := .type "list", data := .seq its.toArray }, toks := t' } :=
  I.laid (fun _ _ q => Heap.get?_push_of_some _ q) (Nat.le_refl _) ⟨hz, its, 0, hv, Heap.get?_push_size _ rfl⟩
theorem Inv.fresh (I : Inv X pins σ H s) : H s.heap.objs.size = none := I.hok.fresh (Nat.le_refl _)
theorem Inv.lstM (I : Inv X pins σ H s) (hH : H l = some (.lst xs)) : xs.length <= sizeLine /\ ∃ (its : List Value) (n : Nat), Vals xs its /\ xs.length = its.length /\ s.heap.get? l = some { cls := .type "list", data := .seq its.toArray n } := by
  obtain ⟨z, its, n, r, e⟩ := I.hok l _ hH
  exact ⟨z, its, n, r, r.length, e⟩
end
section
variable {X : Cx}
def rAppend : V -> List V -> Hp -> VK -> Prop := fun x vs H Q => ∃ l xs y, x = .ref l /\ vs = [y] /\ H l = some (.lst xs) /\ xs.length < sizeLine /\ Q .non (upd H l (.lst (xs ++ [y])))
theorem mt_append : MtM X "list.append" rAppend := by
  intro pins s σ H x vs v us Q I rx rv h
  obtain ⟨l, xs, y, rfl, rfl, hH, hz, q⟩ := h
  cases rx
  obtain ⟨u, rfl, ru⟩ := rv.one
  obtain ⟨z, its, n, r, hl, e⟩ := I.lstM hH
  refine call_meets F.slot_list_append ⟨_, e, rfl⟩ F.entry_list_append (F.args_list_append_2 _ _) (PySem.list_append l its.toArray n u (by rw [List.size_toArray]; omega)) ⟨e, ?_⟩
  refine ⟨.non, _, I.lset (its' := its ++ [u]) hH e (by simp) (r.append (.cons ru .nil)) ?_, rfl, q⟩
  rw [List.length_append, List.length_singleton]
  omega
def rPopAt : V -> List V -> Hp -> VK -> Prop := fun x vs H Q => ∃ l xs i k y, x = .ref l /\ vs = [.int i] /\ H l = some (.lst xs) /\ -(2 ^ 63) <= i /\ i < 2 ^ 63 /\ seqIndex? i xs.length = some k /\ xs[k]? = some y /\ Q y (upd H l (.lst (xs.eraseIdx k)))
theorem mt_popAt : MtM X "list.pop" rPopAt := by
  intro pins s σ H x vs v us Q I rx rv h
  obtain ⟨l, xs, i, k, y, rfl, rfl, hH, h1, h2, hk, hy, q⟩ := h
  cases rx
  obtain ⟨u, rfl, ru⟩ := rv.one
  obtain ⟨t, rfl⟩ := ru
  obtain ⟨z, its, n, r, hl, e⟩ := I.lstM hH
  obtain ⟨w, hw, rw'⟩ := r.get hy
  refine call_meets F.slot_list_pop ⟨_, e, rfl⟩ F.entry_list_pop (F.args_list_pop_2 _ _)
    (MeetsSeq.list_pop_at l its.toArray n i t k w (fitsIndex_both h1 h2) (by rw [List.size_toArray, <- hl]; exact hk) (by rw [<- Array.getElem?_toList]; exact hw) (by rw [List.size_toArray]; omega)) ⟨e, ?_⟩
  refine ⟨y, _, I.lset (its' := its.eraseIdx k) hH e ?_ (r.eraseIdx k) ?_, rw', q⟩
  · show its.toArray.eraseIdxIfInBounds k = (its.eraseIdx k).toArray
    rw [List.eraseIdxIfInBounds_toArray]
  · have := len_erase xs k
    omega
end
section
variable {prog : Program} {w : World} {A : Around} {E : Value -> Shared -> Prop} {s : Shared}
end
section
variable {X : Cx}
end
end L2
namespace Att
open PySem PySem.W PySem.Calls PyProof.Rows
theorem ints_of_wellAll {P : Params} {h : Heap} : ∀ (ns : List Int) (vs : List Value), WellAll P h vs (ns.map WData.int) -> IntsAre vs ns := by
  intro ns
  induction ns with
  | nil =>
    intro vs w
    rw [List.map_nil] at w
    cases w
    exact .nil
  | cons n ns ih =>
    intro vs w
    rw [List.map_cons] at w
    cases w with
    | cons a b =>
      cases a
      exact .cons _ _ (ih _ b)
theorem script_of {l : OpenLaw} {n : Nat} (hn : l.most = some n) {P : Params} {h : Heap} {args : List WData} {vals : List Value}
    (hpre : l.row.toRowW.claim.pre args = true) (hwl : WellAll P h vals args) :
    ∃ a vs ns, vals = [Value.ref a] /\ args = [WData.list (ns.map WData.int)] /\ h.get? a = some { cls := .type "list", data := .seq vs.toArray } /\ IntsAre vs ns /\ ns.length <= n := by
  have hsh : WShape.hasAll [] args [.list .int] = true := (pre_splitW hpre).1
  have hc : l.pre.holds [] { args := args } = true := (pre_splitW hpre).2
  obtain ⟨d, r, rfl, h1, h2⟩ := hasAllW_cons hsh
  obtain rfl := hasAllW_nil h2
  obtain ⟨xs, rfl, h3⟩ := hasW_list h1
  obtain ⟨ns, rfl⟩ := items_int h3
  have hlen : ns.length <= n := by
    unfold OpenLaw.pre at hc
    have h4 : (WTm.not (.lt (.lit (.int (n : Int))) (.len (.arg 0)))).holds [] { args := [.list (ns.map .int)] } = true := by
      have h4 := (holds_andW hc).1
      rw [hn] at h4
      exact h4
    have h5 := condW_of h4 (w_not (w_lt w_lit (w_len_list (w_arg rfl))))
    rw [List.length_map] at h5
    refine Nat.le_of_not_lt fun q => ?_
    have q' : (n : Int) < ((ns.length : Nat) : Int) := by omega
    first
      | (rw [decide_eq_true q'] at h5; exact absurd h5 (by decide))
      | (simp at h5; omega)
  cases hwl with
  | cons w1 w2 =>
    cases w2
    cases w1 with
    | list ho hall => exact ⟨_, _, ns, rfl, rfl, ho, ints_of_wellAll ns _ hall, hlen⟩
theorem post_true (l : OpenLaw) (args : List WData) : l.row.toRowW.claim.post args (.bool true) args = true :=
  postW_of (r := l.row.toRowW) (X := (true == true))
    (show WShape.has [] (.bool true) .bool = true by first | rfl | decide | simp [WShape.has, WShape.arms, WShape.armsAll])
    (show (WTm.eq .res (.lit (.bool true))).value [] { args := args, res := some (.bool true), after := args } = some (.bool (true == true)) from w_eq_bool (w_res rfl) w_lit) rfl
theorem attach_call {l : OpenLaw} {n : Nat} {q : Program} {loose : List Str} {XP : (Str -> Option Value) -> Heap -> Prop} {YP : World -> Heap -> Prop} {d : DefRec}
    (hn : l.most = some n) (hdf : d.params.defaults = [])
    (call : ∀ (w : World) (s₀ s₁ : Shared) (mg mb : Str -> Option Value) (fa : Addr) (o : Obj) (pm cd doc : Value) (a : Addr) (vs : List Value) (ns : List Int),
      Ground q loose [] XP w s₀ mg mb s₁.heap -> YP w s₁.heap ->
      s₁.heap.get? fa = some o -> o.data = .func (docDef d.name d.params d.body d.scope pm cd doc) -> s₁.heap.CodeRec cd d.name -> mg d.name = some (.ref fa) ->
      s₁.heap.get? a = some { cls := .type "list", data := .seq vs.toArray } -> IntsAre vs ns -> ns.length <= n -> s₁.gens = #[] ->
      codeAny (model l.prog w) callerA (.call (.ref fa) ⟨[.ref a], []⟩) (fun r s' => r = .ok (.ret (.bool true)) /\ OldK s₁.heap s'.heap /\ s'.os = s₁.os /\ AllBare s'.gens) s₁) :
    WalkO q loose XP YP l.row.toRowW d [] (fun f vs => PySem.call f vs) := by
  intro w s₀ s₁ mg mb G Y fa o pm cd doc dV kV ho hd hcd hD hmg hg args vals as hpre hlay hrd hwl hlo
  obtain rfl : dV = .none := Dflts.none hD hdf
  obtain rfl : kV = .none := Dflts.noKw hD
  obtain ⟨a, vs, ns, rfl, rfl, hobj, hints, hlen⟩ := script_of hn hpre hwl
  refine enter_call (codeAny_mono (call w s₀ s₁ mg mb fa o pm cd doc a vs ns G Y ho (fd_plain hd) hcd hmg hobj hints hlen hg) fun r s' hq => ?_)
  obtain ⟨rfl, h2, h3, h4⟩ := hq
  exact ⟨.inl ⟨.bool true, .bool true, [], rfl, fun _ => rfl, .bool true, post_true l _, fun _ => ⟨List.Pairwise.nil, fun _ hm => (nomatch hm)⟩⟩, h2, h3, h4⟩
section
variable {prog : Program} {w : World} {A : Around} {E : Value -> Shared -> Prop} {s : Shared} {K : Frag}
end
end Att
namespace L2
open PySem PySem.Spec PyProof.Rows
theorem vals_ints : ∀ {vs : List Value} {ns : List Int}, IntsAre vs ns -> Vals (ns.map V.int) vs
  | _, _, .nil => .nil
  | _, _, .cons n t h => .cons ⟨t, rfl⟩ (vals_ints h)
def Only (H : Hp) : Prop := ∀ b, H b = none ∨ ∃ o xs, H b = some (.frz o (.lst xs))
theorem law_call {P : Program} {w : World} {K : PySem.W.Frag} {mg mb : Str -> Option Value} {CX : CXT} {k : Nat} {fa a : Addr} {fd : FuncData} {x : Str} {sp : Sp} {s₁ : Shared} {vs : List Value} {ns : List Int}
    (KX : K.In s₁.heap) (hns : s₁.heap.Ns mainGlobals mg) (hb : s₁.heap.Ns builtinsNs mb) (hbb : ∀ x : Str, x ≠ "__name__" -> mb x = bootBuiltins x) (hlim : s₁.heap.NoLimit) (hg : s₁.gens = #[])
    (ha : s₁.heap.get? a = some { cls := .type "list", data := .seq vs.toArray }) (hi : IntsAre vs ns) (hl : ns.length <= sizeLine) (hr : Room k callerA)
    (F : ∀ base : Heap, K.In base -> base.Ns mainGlobals mg -> FnOk P w K mg base CX k fa fd [x] sp) (hbind : ∀ (s : Shared) (u : Value), BindsTo s fd ⟨[u], []⟩ [(x, u)])
    (hsp : ∀ H : Hp, Only H -> SqL K H a (ns.map V.int) -> sp [.ref a] H (fun v _ => v = .bl true) fun _ _ _ => False)
    (hCX : ∀ H e s', CX [] H s₁ (fun _ _ _ => False) e s' -> False) :
    codeAny (model P w) callerA (.call (.ref fa) ⟨[.ref a], []⟩) (fun r s' => r = .ok (.ret (.bool true)) /\ OldK s₁.heap s'.heap /\ s'.os = s₁.os /\ AllBare s'.gens) s₁ := by
  have rv := vals_ints hi
  have lenV := hi.length
  -- from an abstract heap in which nothing but the script may be tracked
  have core : ∀ H : Hp, Only H -> SqL K H a (ns.map V.int) -> HOk P w H s₁.heap -> (∀ b, H b ≠ none -> b = a) -> (H a ≠ none -> K.lookup a = none) ->
      codeAny (model P w) callerA (.call (.ref fa) ⟨[.ref a], []⟩) (fun r s' => r = .ok (.ret (.bool true)) /\ OldK s₁.heap s'.heap /\ s'.os = s₁.os /\ AllBare s'.gens) s₁ := by
    intro H hO hS hok hA hK
    have base_of : ∀ {b : Addr} {o : Obj}, s₁.heap.get? b = some o -> H b = none -> (hidT s₁.heap H).get? b = some o := fun e n => hidT_get e n
    have noA : ∀ {b : Addr} {o : Obj} {es : Array DictEntry} {ep : Nat}, s₁.heap.get? b = some o -> o.data = .dict es ep -> H b = none := fun {b o es ep} e d => by
      cases q : H b with
      | none => rfl
      | some u =>
        have e' : b = a := hA b (by rw [q]; simp)
        subst e'
        rw [ha] at e; cases e
        have d' : Data.seq vs.toArray _ = Data.dict es ep := d
        cases d'
    have nsK : ∀ {b : Addr} {m : Str -> Option Value}, s₁.heap.Ns b m -> (hidT s₁.heap H).Ns b m := fun {b m} ⟨o, es, ep, e, d, r⟩ => ⟨o, es, ep, base_of e (noA e d), d, r⟩
    have hKb : K.In (hidT s₁.heap H) := fun b o e => base_of (KX b o e) (by
      cases q : H b with
      | none => rfl
      | some u =>
        have e' : b = a := hA b (by rw [q]; simp)
        subst e'
        rw [hK (by rw [q]; simp)] at e; cases e)
    have hM : Mod K mg (hidT s₁.heap H) := ⟨hKb, nsK hns, ⟨mb, nsK hb, hbb⟩, let ⟨mc, h1, h2⟩ := hlim; ⟨mc, nsK h1, h2⟩⟩
    have e0 : Env0 P w K mg (hidT s₁.heap H) callerA [] s₁ H := ⟨rfl, hM, fun b o e => of_hidT e, Nat.le_of_eq (hidT_size _ _), trivial, fun b hb => absurd (show b ∈ ([] : List Addr) from hb) (by simp), hok, .of_eq hg⟩
    refine codeAny_mono ((F _ hKb (nsK hns)).run callerA [] s₁ H ⟨[.ref a], []⟩ [.ref a] [.ref a] _ _ hr e0 (hbind s₁ (.ref a)) (.cons rfl .nil) (hsp H hO hS)) fun r s' h => ?_
    cases r with
    | error e => exact (hCX H e s' h).elim
    | ok fl =>
      cases fl with
      | next => exact False.elim h
      | brk => exact False.elim h
      | cont => exact False.elim h
      | ret u =>
        obtain ⟨v, H', os, bare, un, hok', r', q⟩ := h
        have q' : v = .bl true := q
        subst q'
        obtain rfl : u = Value.bool true := r'
        refine ⟨rfl, OldK.of_keep fun b o e => ?_, os, bare⟩
        cases q : H b with
        | none => exact un.keep b o e q (by intro z; exact absurd (show b ∈ ([] : List Addr) from z) (by simp)) (by simp)
        | some u =>
          rcases hO b with z | ⟨ob, xs, z⟩
          · rw [q] at z; cases z
          · have z2 := un.frzs b ob _ z
            obtain ⟨e1, _⟩ := hok b _ z
            obtain ⟨e2, _⟩ := hok' b _ z2
            rw [e] at e1; cases e1
            exact e2
  cases hk : K.lookup a with
  | some o =>
    -- the script is one of the module's own objects
    have e := KX a o hk
    rw [ha] at e
    cases e
    refine core (fun _ => none) (fun _ => .inl rfl) (.inr ⟨_, vs.toArray, _, hk, rfl, rfl, rfl, by rw [List.size_toArray, lenV]; exact hl, by simpa using rv⟩) (fun b u z => by have z' : (none : Option HO) = some u := z; cases z') (fun b z => absurd rfl z) fun z => absurd rfl z
  | none =>
    refine core (fun b => if b = a then some (.frz { cls := .type "list", data := .seq vs.toArray } (.lst (ns.map V.int))) else none) (fun b => ?_) (.inl (.inr ⟨{ cls := .type "list", data := .seq vs.toArray }, if_pos rfl⟩)) (fun b u z => ?_) (fun b z => ?_) fun _ => hk
    · by_cases hb : b = a
      · exact .inr ⟨_, _, if_pos hb⟩
      · exact .inl (if_neg hb)
    · by_cases hb : b = a
      · have z' := (if_pos hb).symm.trans z
        cases z'
        subst hb
        exact ⟨ha, by rw [List.length_map]; exact hl, vs, _, rv, ha⟩
      · have z' := (if_neg hb).symm.trans z
        cases z'
    · by_cases hb : b = a
      · exact hb
      · exact absurd (if_neg hb) z
end L2
namespace L2
open PySem PySem.Spec PyProof.Rows
theorem walk_of {l : PySem.W.OpenLaw} {n k : Nat} {q : Program} {loose : List Str} {XP : (Str -> Option Value) -> Heap -> Prop} {YP : World -> Heap -> Prop} {d : DefRec} {K : Params -> PySem.W.Frag} {CX : World -> CXT} {sp : World -> Sp} {x : Str}
    (hn : l.most = some n) (hn2 : n <= sizeLine) (hdf : d.params.defaults = []) (hr : Room k callerA)
    (hY : ∀ (w : World) (h : Heap), YP w h -> (K w.params).In h)
    (F : ∀ (w : World) (mg : Str -> Option Value) (fa : Addr) (h : Heap), (K w.params).In h -> h.Ns mainGlobals mg -> mg d.name = some (.ref fa) ->
      ∃ fd : FuncData, (∀ (s : Shared) (u : Value), BindsTo s fd ⟨[u], []⟩ [(x, u)]) /\
        ∀ base : Heap, (K w.params).In base -> base.Ns mainGlobals mg -> FnOk l.prog w (K w.params) mg base (CX w) k fa fd [x] (sp w))
    (hsp : ∀ (w : World) (H : Hp) (a : Addr) (ns : List Int), ns.length <= n -> Only H -> SqL (K w.params) H a (ns.map V.int) -> sp w [.ref a] H (fun v _ => v = .bl true) fun _ _ _ => False)
    (hCX : ∀ (w : World) (H : Hp) (s : Shared) (e : Value) (s' : Shared), CX w [] H s (fun _ _ _ => False) e s' -> False) :
    PySem.W.WalkO q loose XP YP l.row.toRowW d [] (fun f vs => PySem.call f vs) := by
  refine Att.attach_call hn hdf fun w s₀ s₁ mg mb fa o pm cd doc a vs ns G Y ho hd hcd hmg hobj hints hlen hg => ?_
  have KX := hY w _ Y
  obtain ⟨fd, hb, hF⟩ := F w mg fa _ KX G.T.g hmg
  exact law_call KX G.T.g G.T.b G.T.builtins G.T.nolimit hg hobj hints (Nat.le_trans hlen hn2) hr hF hb (fun H hO hS => hsp w H a ns hlen hO hS) fun H e s' => hCX w H s₁ e s'
end L2
namespace L2
open PySem PySem.Spec PyProof.Rows
def defArgs (s : Stmt) : Arguments := match s with
  | .FunctionDef _ a _ _ _ _ _ _ _ _ => a
  | _ => { posonlyargs := [], args := [], vararg := none, kwonlyargs := [], kw_defaults := [], kwarg := none, defaults := [] }
def defBody (s : Stmt) : List Stmt := match s with
  | .FunctionDef _ _ b _ _ _ _ _ _ _ => b
  | _ => []
def defScope (s : Stmt) : Scope := match s with
  | .FunctionDef _ _ _ _ _ _ sc _ _ _ => sc
  | _ => { kind := .function, names := [], isGenerator := false, isCoroutine := false }
abbrev CX0 : CXT := fun _ _ _ _ _ _ => False
abbrev E0 : XK := fun _ _ _ => False
theorem pass0 {X : Cx} : Passes CX0 X E0 := fun _ _ _ _ _ _ _ h => h.elim
structure Fun (K : PySem.W.Frag) (x qual : Str) (st : Stmt) (f : Addr) (fd : FuncData) : Prop where
  ex : ∃ (oc : Value) (od : Option Addr) (kV doc pm : Value) (an : Option Addr) (cdv ct : Value) (osl : Array (Option Value)),
    fd = PySem.W.fnOf x qual (defArgs st) (defBody st) (defScope st) .none kV doc pm an cdv ct /\ K.lookup f = some ⟨oc, od, .func fd, osl⟩ /\ PySem.W.codeIn K cdv qual = true
  kp : PySem.W.keepIn K (.ref f) = true
section
variable {P : Program} {w : World} {K : PySem.W.Frag} {mg : Str -> Option Value} {base : Heap}
theorem Fun.ok {x qual : Str} {st : Stmt} {f : Addr} {fd : FuncData} {N ps : List Str} {k : Nat} {sp : Sp} (F : Fun K x qual st f fd) (S : FnScope N ps (defScope st)) (len : ∀ vs H Q E, sp vs H Q E -> vs.length = ps.length)
    (hbody : ∀ (cdv : Value) (A : Around) (outer : List Env) (s : Shared) (H : Hp) (vs : List V) (Q : VK) (E : XK), Room k (A.deeper (envOfC qual (defScope st) s.heap.objs.size f cdv)) -> sp vs H Q E ->
      ∃ t, PSs (cxOf CX0 P w K mg base N qual (defScope st) f cdv A outer s H E).nox (defBody st) t /\ t { nx := fun _ H' => Q .non H', rt := Q } (start N vs) H) : FnOk P w K mg base CX0 (k + 1) f fd ps sp := by
  obtain ⟨oc, od, kV, doc, pm, an, cdv, ct, osl, rfl, lk, hcd⟩ := F.ex
  refine fn_of lk hcd S len fun A outer s H vs Q E hr hsp => ?_
  obtain ⟨t, h, q⟩ := hbody cdv A outer s H vs Q E hr hsp
  exact ⟨t, h.nox, q⟩
theorem Fun.binds {x qual : Str} {st : Stmt} {f : Addr} {fd : FuncData} {ps : List Str} (F : Fun K x qual st f fd)
    (h : ∀ (kV doc pm : Value) (an : Option Addr) (cdv ct : Value) (us : List Value), us.length = ps.length -> bindArgs (PySem.W.fnOf x qual (defArgs st) (defBody st) (defScope st) .none kV doc pm an cdv ct) ⟨us, []⟩ = pure (ps.zip us)) : Binds K fd ps [] := by
  obtain ⟨oc, od, kV, doc, pm, an, cdv, ct, osl, rfl, lk, hcd⟩ := F.ex
  exact .all (h kV doc pm an cdv ct)
theorem fun_mk {x qual : Str} {st : Stmt} {f : Addr} {oc : Value} {od an : Option Addr} {osl : Array (Option Value)} {kV doc pm cdv ct : Value} (l : K.lookup f = some ⟨oc, od, .func (PySem.W.fnOf x qual (defArgs st) (defBody st) (defScope st) .none kV doc pm an cdv ct), osl⟩)
    (c : PySem.W.codeIn K cdv qual = true) (k : PySem.W.keepIn K (.ref f) = true) : Fun K x qual st f (PySem.W.fnOf x qual (defArgs st) (defBody st) (defScope st) .none kV doc pm an cdv ct) := ⟨⟨oc, od, kV, doc, pm, an, cdv, ct, osl, rfl, l, c⟩, k⟩
end
theorem small1000 {n : Nat} (h : n <= 1000) : n < sizeLine := Nat.lt_of_le_of_lt h (by decide)
section
variable {X : Cx}
end
def Same (H H' : Hp) : Prop := ∀ b o, H b = some o -> H' b = some o
theorem Same.trans {H H1 H2 : Hp} (a : Same H H1) (b : Same H1 H2) : Same H H2 := fun c o h => b c o (a c o h)
theorem Same.free {H H' : Hp} (e : Same H H') {l : Addr} (h : H' l = Option.none) : H l = Option.none := by
  cases q : H l with
  | none => rfl
  | some o =>
    rw [e l o q] at h
    cases h
theorem Same.seq {K : PySem.W.Frag} {H H' : Hp} {a : Addr} {xs : List V} (e : Same H H') (h : SqL K H a xs) : SqL K H' a xs := by
  rcases h with (h | ⟨o, h⟩) | h
  · exact .inl (.inl (e _ _ h))
  · exact .inl (.inr ⟨o, e _ _ h⟩)
  · exact .inr h
end L2
namespace L2
open PySem PySem.Spec PyProof.Rows
section
variable {κ : Type} [DecidableEq κ]
def valV (kvs : List (κ × V)) (k : κ) : Option V := (kvs.find? fun kv => decide (kv.1 = k)).map (·.2)
def putK (kvs : List (κ × V)) (k : κ) (v : V) : List (κ × V) :=
  if (kvs.any fun kv => decide (kv.1 = k)) = true then kvs.map (fun kv => if kv.1 = k then (kv.1, v) else kv) else kvs ++ [(k, v)]
theorem RelO.getD {o : Option V} {u : Option Value} {d : V} {d' : Value} (r : RelO o u) (rd : RelV d d') : RelV (o.getD d) (u.getD d') := by
  cases o with
  | none => cases u with
    | none => exact rd
    | some _ => exact (show False from r).elim
  | some _ => cases u with
    | none => exact (show False from r).elim
    | some _ => exact r
theorem KV.any {kvs : List (κ × V)} {vs : List (κ × Value)} (r : KV kvs vs) (k : κ) : (kvs.any fun kv => decide (kv.1 = k)) = vs.any fun kv => decide (kv.1 = k) := by
  unfold KV at r
  induction r with
  | nil => rfl
  | cons h t ih => rw [List.any_cons, List.any_cons, ih, h.1]
theorem KV.keys {kvs : List (κ × V)} {vs : List (κ × Value)} (r : KV kvs vs) : kvs.map (·.1) = vs.map (·.1) := by
  unfold KV at r
  induction r with
  | nil => rfl
  | cons h t ih => rw [List.map_cons, List.map_cons, ih, h.1]
theorem KV.length {kvs : List (κ × V)} {vs : List (κ × Value)} (r : KV kvs vs) : kvs.length = vs.length := Paired.length r
end
abbrev KT (H : Hp) : List (List Key × V) -> List (List Key × Addr × Value) -> Prop := Paired fun p q => p.1 = q.1 /\ H q.2.1 = some (.tup (p.1.map kV)) /\ RelV p.2 q.2.2
theorem KT.keeps {H H' : Hp} {kvs : List (List Key × V)} {xs : List (List Key × Addr × Value)} (r : KT H kvs xs) (ht : ∀ b ys, H b = some (.tup ys) -> H' b = some (.tup ys)) : KT H' kvs xs :=
  Paired.mapP r fun _ _ z => ⟨z.1, ht _ _ z.2.1, z.2.2⟩
section
variable {P : Program} {w : World} {H : Hp} {h : Heap} {a : Addr}
end
def DGet (H : Hp) (a : Addr) (y : V) (r : Option V) : Prop :=
  (∃ kvs k, Rd H a (.dK kvs) /\ y = kV k /\ r = valV kvs k) ∨ ∃ kvs k b, Rd H a (.dT kvs) /\ y = .ref b /\ H b = some (.tup (k.map kV)) /\ r = valV kvs k
def DPut (H : Hp) (a : Addr) (y v : V) (H' : Hp) : Prop :=
  (∃ kvs k, H a = some (.dK kvs) /\ y = kV k /\ kvs.length < sizeLine /\ H' = upd H a (.dK (putK kvs k v))) ∨
  ∃ kvs k b, H a = some (.dT kvs) /\ y = .ref b /\ H b = some (.tup (k.map kV)) /\ kvs.length < sizeLine /\ H' = upd H a (.dT (putK kvs k v))
theorem DGet.k {H : Hp} {a : Addr} {kvs : List (Key × V)} {k : Key} (e : H a = some (.dK kvs)) : DGet H a (kV k) (valV kvs k) := .inl ⟨kvs, k, .inl e, rfl, rfl⟩
theorem DGet.t {H : Hp} {a b : Addr} {kvs : List (List Key × V)} {k : List Key} (e : H a = some (.dT kvs)) (eb : H b = some (.tup (k.map kV))) : DGet H a (.ref b) (valV kvs k) := .inr ⟨kvs, k, b, .inl e, rfl, eb, rfl⟩
theorem DPut.k {H : Hp} {a : Addr} {kvs : List (Key × V)} {k : Key} {v : V} (e : H a = some (.dK kvs)) (hl : kvs.length < sizeLine) : DPut H a (kV k) v (upd H a (.dK (putK kvs k v))) := .inl ⟨kvs, k, e, rfl, hl, rfl⟩
theorem DPut.t {H : Hp} {a b : Addr} {kvs : List (List Key × V)} {k : List Key} {v : V} (e : H a = some (.dT kvs)) (eb : H b = some (.tup (k.map kV))) (hl : kvs.length < sizeLine) :
    DPut H a (.ref b) v (upd H a (.dT (putK kvs k v))) := .inr ⟨kvs, k, b, e, rfl, eb, hl, rfl⟩
section
variable {X : Cx} {pins : List (Addr × Obj)} {σ : St} {H : Hp} {s : Shared} {a : Addr} {y v : V} {u r : Value} {o : Option V} {A : Around} {E : Value -> Shared -> Prop}
end
section
variable {X : Cx} {pins : List (Addr × Obj)} {σ : St} {H : Hp} {s : Shared} {a : Addr} {kvs : List (Key × V)} {k : Key} {u : Value} {A : Around} {E : Value -> Shared -> Prop}
end
section
variable {X : Cx} {o i e value : Expr} {pos pos' tpos : Pos} {td ty tv : TE}
end
section
variable {X : Cx} {pos : Pos}
end
section
variable {X : Cx} {pins : List (Addr × Obj)} {σ : St} {H : Hp} {s : Shared} {a : Addr} {y d : V} {u r : Value} {o : Option V} {A : Around} {E : Value -> Shared -> Prop}
end
section
variable {X : Cx} {o e f : Expr} {apos cpos : Pos} {td ty tx : TE}
end
section
variable {X : Cx} {pins : List (Addr × Obj)} {σ : St} {H : Hp} {s : Shared} {a : Addr} {kvs : List (Key × V)} {A : Around} {E : Value -> Shared -> Prop}
end
section
variable {X : Cx} {pins : List (Addr × Obj)} {σ : St} {H : Hp} {s : Shared} {a : Addr} {y : V} {u : Value} {A : Around} {E : Value -> Shared -> Prop}
end
end L2
namespace L2
open PySem PySem.Spec PyProof.Rows
section
variable {X : Cx}
end
section
variable {κ : Type} [DecidableEq κ]
end
end L2
namespace L2
open PySem PySem.Spec PyProof.Rows
def closOf (cells : List (Str × Addr)) : List (Str × NameKind) -> List (Str × Addr) -> List (Str × Addr)
  | [], acc => acc
  | (n, k) :: r, acc => if k == .free then closOf cells r ((n, (cells.lookup n).getD 0) :: acc) else closOf cells r acc
theorem closureFor_gen {env : Env} (f : Str × NameKind -> List (Str × Addr) -> Sem (ForInStep (List (Str × Addr))))
    (hf : ∀ name kind cs, f (name, kind) cs = if (kind == NameKind.free) = true then (do let a <- cellOf env name; pure (ForInStep.yield ((name, a) :: cs))) else pure (ForInStep.yield cs)) :
    ∀ (names : List (Str × NameKind)) (acc : List (Str × Addr)), (∀ y ∈ names, y.2 = .free -> ∃ c, env.cells.lookup y.1 = some c) -> forIn names acc f = pure (closOf env.cells names acc)
  | [], acc, _ => rfl
  | (n, k) :: r, acc, hy => by
    rw [List.forIn_cons, hf]
    have ih := fun a => closureFor_gen f hf r a fun z hz => hy z (List.mem_cons_of_mem _ hz)
    by_cases hk : (k == NameKind.free) = true
    · obtain ⟨c, hc⟩ := hy (n, k) List.mem_cons_self (by simpa using hk)
      have hc : env.cells.lookup n = some c := hc
      have e1 : cellOf env n = pure c := by unfold cellOf; rw [hc]
      rw [if_pos hk, e1]
      show forIn r ((n, c) :: acc) f = _
      have e2 : closOf env.cells ((n, k) :: r) acc = closOf env.cells r ((n, c) :: acc) := by
        rw [closOf, if_pos hk, hc]
        rfl
      rw [ih, e2]
    · rw [if_neg hk]
      show forIn r acc f = _
      have e2 : closOf env.cells ((n, k) :: r) acc = closOf env.cells r acc := by
        rw [closOf, if_neg hk]
      rw [ih, e2]
theorem closureFor_eq {scope : Scope} {env : Env} (h : ∀ y ∈ scope.names, y.2 = .free -> ∃ c, env.cells.lookup y.1 = some c) : closureFor scope env = pure (closOf env.cells scope.names []) := by
  unfold closureFor
  dsimp only
  rw [closureFor_gen _ (fun name kind cs => rfl) scope.names [] h]
  rfl
theorem closOf_old {cells : List (Str × Addr)} : ∀ {names : List (Str × NameKind)} {acc : List (Str × Addr)}, (∀ y ∈ names, y.2 = .free -> ∃ c, cells.lookup y.1 = some c) -> (∀ x c, acc.lookup x = some c -> cells.lookup x = some c) ->
    ∀ x c, (closOf cells names acc).lookup x = some c -> cells.lookup x = some c
  | [], _, _, ha, x, c, e => ha x c e
  | (n, k) :: r, acc, hy, ha, x, c, e => by
    unfold closOf at e
    have hr : ∀ y ∈ r, y.2 = .free -> ∃ c, cells.lookup y.1 = some c := fun z hz => hy z (List.mem_cons_of_mem _ hz)
    by_cases hk : (k == NameKind.free) = true
    · rw [if_pos hk] at e
      refine closOf_old hr (fun z d q => ?_) x c e
      obtain ⟨c0, hc0⟩ := hy (n, k) List.mem_cons_self (by simpa using hk)
      have hc0 : cells.lookup n = some c0 := hc0
      rw [List.lookup_cons] at q
      by_cases hz : (z == n) = true
      · rw [hz, hc0] at q
        have : z = n := by simpa using hz
        subst this
        simpa [hc0] using q
      · have hz' : (z == n) = false := by simpa using hz
        rw [hz'] at q
        exact ha z d q
    · rw [if_neg hk] at e
      exact closOf_old hr ha x c e
theorem closOf_has {cells : List (Str × Addr)} : ∀ {names : List (Str × NameKind)} {acc : List (Str × Addr)} {x : Str}, ((acc.lookup x).isSome = true ∨ (x, NameKind.free) ∈ names) -> ((closOf cells names acc).lookup x).isSome = true
  | [], _, _, h => h.elim id fun z => by cases z
  | (n, k) :: r, acc, x, h => by
    unfold closOf
    by_cases hk : (k == NameKind.free) = true
    · rw [if_pos hk]
      refine closOf_has ?_
      by_cases hx : (x == n) = true
      · exact .inl (by rw [List.lookup_cons, hx]; rfl)
      · have hx' : (x == n) = false := by simpa using hx
        rcases h with h | h
        · exact .inl (by rw [List.lookup_cons, hx']; exact h)
        · rcases List.mem_cons.mp h with h | h
          · cases h; simp at hx
          · exact .inr h
    · rw [if_neg hk]
      refine closOf_has ?_
      rcases h with h | h
      · exact .inl h
      · rcases List.mem_cons.mp h with h | h
        · cases h; simp at hk
        · exact .inr h
def ownC : Nat -> List (Str × NameKind) -> List (Str × Addr)
  | _, [] => []
  | n, (x, k) :: r => if k == .cell then ownC (n + 1) r ++ [(x, n)] else ownC n r
theorem cellsFrom_own : ∀ (names : List (Str × NameKind)) (n : Nat) (acc : List (Str × Addr)), cellsFrom n names acc = ownC n names ++ acc
  | [], _, _ => rfl
  | (x, k) :: r, n, acc => by
    unfold cellsFrom ownC
    by_cases hk : (k == NameKind.cell) = true
    · rw [if_pos hk, if_pos hk, cellsFrom_own r (n + 1), List.append_assoc]; rfl
    · rw [if_neg hk, if_neg hk, cellsFrom_own r n]
theorem ownC_key : ∀ (names : List (Str × NameKind)) (n : Nat) (x : Str) (c : Addr), (ownC n names).lookup x = some c -> (x, NameKind.cell) ∈ names
  | [], _, _, _, e => by cases e
  | (y, k) :: r, n, x, c, e => by
    unfold ownC at e
    by_cases hk : (k == NameKind.cell) = true
    · rw [if_pos hk] at e
      have hk' : k = .cell := by simpa using hk
      rw [List.lookup_append] at e
      cases q : (ownC (n + 1) r).lookup x with
      | some d => exact List.mem_cons_of_mem _ (ownC_key r _ x d q)
      | none =>
        rw [q] at e
        simp only [Option.none_or, List.lookup_cons] at e
        by_cases hx : (x == y) = true
        · have : x = y := by simpa using hx
          subst this; subst hk'
          exact List.mem_cons_self
        · have hx' : (x == y) = false := by simpa using hx
          rw [hx'] at e; cases e
    · rw [if_neg hk] at e
      exact List.mem_cons_of_mem _ (ownC_key r n x c e)
theorem ownC_has : ∀ (names : List (Str × NameKind)) (n : Nat) (x : Str), (x, NameKind.cell) ∈ names -> ∃ c, (ownC n names).lookup x = some c
  | [], _, _, h => by cases h
  | (y, k) :: r, n, x, h => by
    unfold ownC
    by_cases hk : (k == NameKind.cell) = true
    · rw [if_pos hk, List.lookup_append]
      rcases List.mem_cons.mp h with h | h
      · obtain ⟨rfl, rfl⟩ := Prod.mk.inj h
        cases q : (ownC (n + 1) r).lookup x with
        | some d => exact ⟨d, rfl⟩
        | none => exact ⟨n, by simp [List.lookup_cons]⟩
      · obtain ⟨c, hc⟩ := ownC_has r (n + 1) x h
        exact ⟨c, by rw [hc]; rfl⟩
    · rw [if_neg hk]
      rcases List.mem_cons.mp h with h | h
      · cases h; simp at hk
      · exact ownC_has r n x h
def cEnv (scope : Scope) (C : Addr) (env : Env) : Env :=
  { scope := relabel scope env, locals := C, globals := env.globals, cells := cellsFrom (C + 1) scope.names (closOf env.cells scope.names []), qual := env.qual, func := none, code := env.code, frame := env.frame, builtins := env.builtins }
theorem newEnvC {M : Model} {A : Around} {E : Value -> Shared -> Prop} {s : Shared} {scope : Scope} {cl : List (Str × Addr)} {env : Env} {Q : Env -> Shared -> Prop}
    (hQ : ∀ h', (∀ b o, s.heap.get? b = some o -> h'.get? b = some o) -> h'.Ns s.heap.objs.size (fun _ => none) -> (∀ x c, (ownC (s.heap.objs.size + 1) scope.names).lookup x = some c -> h'.IsCell c none /\ s.heap.objs.size < c) ->
      ((ownC (s.heap.objs.size + 1) scope.names).Pairwise fun x y => x.2 ≠ y.2) ->
      Q { scope := scope, locals := s.heap.objs.size, globals := env.globals, cells := cellsFrom (s.heap.objs.size + 1) scope.names cl, qual := env.qual, func := none, code := env.code, frame := env.frame, builtins := env.builtins } { s with heap := h' }) :
    wpAny M A (newFunctionEnv scope env.globals cl [] env.qual none .none (some env)) Q E s := by
  simp only [newFunctionEnv, Option.isSome_some, if_true]
  refine wpAny_bind (wpAny_alloc ?_)
  refine wpAny_bind (wpAny_layCells _ (fun name kind cells => by cases hkc : kind == NameKind.cell <;> simp [hkc]) _ _ _ _ ?_)
  have ok := cellsFrom_ok scope.names (s.heap.push { cls := .type "dict", data := .dict #[] }) (s.heap.objs.size + 1) [] ⟨fun _ _ hm => (nomatch hm), List.Pairwise.nil⟩ (by rw [Heap.size_push]; exact Nat.le_refl _)
  rw [Heap.size_push, cellsFrom_own, List.append_nil] at ok
  rw [show ({ s with heap := s.heap.push { cls := .type "dict", data := .dict #[] } } : Shared).heap.objs.size = s.heap.objs.size + 1 from Heap.size_push ..]
  refine wpAny_bind (wpAny_pure (wpAny_pure ?_))
  exact hQ _ (fun b o e => pushCells_keeps _ _ b o (Heap.get?_push_of_some _ e)) ((Heap.Ns.new s.heap (.type "dict")).keeps (pushCells_keeps _ _)) (fun x c hc => ⟨(ok.empty x c (mem_of_lookup hc)).1, (ok.empty x c (mem_of_lookup hc)).2⟩) ok.apart
end L2
namespace L2
open PySem PySem.Spec PyProof.Rows
theorem nodup_fun : ∀ {names : List (Str × NameKind)} {x : Str} {k k' : NameKind}, (names.map (·.1)).Nodup -> (x, k) ∈ names -> (x, k') ∈ names -> k = k'
  | [], _, _, _, _, h, _ => by cases h
  | (y, q) :: r, x, k, k', nd, h, h' => by
    have nd : (y :: r.map (·.1)).Nodup := nd
    obtain ⟨n1, n2⟩ := List.nodup_cons.mp nd
    have out : ∀ {z : NameKind}, (y, z) ∈ r -> False := fun m => n1 (List.mem_map.mpr ⟨_, m, rfl⟩)
    rcases List.mem_cons.mp h with e | e <;> rcases List.mem_cons.mp h' with e' | e'
    · cases e; cases e'; rfl
    · cases e; exact (out e').elim
    · cases e'; exact (out e).elim
    · exact nodup_fun n2 e e'
theorem relabel_kinds {env : Env} {x : Str} : ∀ {names : List (Str × NameKind)}, names.lookup x = some .free ->
    (names.map fun (n, k) => if (k == NameKind.free && env.scope.kind == .function && env.kindOf n == some .cell) then (n, NameKind.cell) else (n, k)).lookup x = some .cell ∨
    (names.map fun (n, k) => if (k == NameKind.free && env.scope.kind == .function && env.kindOf n == some .cell) then (n, NameKind.cell) else (n, k)).lookup x = some .free
  | [], h => by simp at h
  | (n, k) :: r, h => by
    have ih := @relabel_kinds env x r
    show List.lookup x ((if (k == NameKind.free && env.scope.kind == .function && env.kindOf n == some .cell) = true then (n, NameKind.cell) else (n, k)) :: _) = _ ∨ List.lookup x ((if (k == NameKind.free && env.scope.kind == .function && env.kindOf n == some .cell) = true then (n, NameKind.cell) else (n, k)) :: _) = _
    cases hx : x == n with
    | true =>
      simp only [List.lookup_cons, hx] at h
      cases h
      by_cases hc : (NameKind.free == NameKind.free && env.scope.kind == .function && env.kindOf n == some .cell) = true
      · rw [if_pos hc]; exact .inl (by simp only [List.lookup_cons, hx])
      · rw [if_neg hc]; exact .inr (by simp only [List.lookup_cons, hx])
    | false =>
      simp only [List.lookup_cons, hx] at h
      by_cases hc : (k == NameKind.free && env.scope.kind == .function && env.kindOf n == some .cell) = true
      · rw [if_pos hc]; simp only [List.lookup_cons, hx]; exact ih h
      · rw [if_neg hc]; simp only [List.lookup_cons, hx]; exact ih h
theorem relabel_back {env : Env} {x : Str} : ∀ {names : List (Str × NameKind)},
    ((names.map fun (n, k) => if (k == NameKind.free && env.scope.kind == .function && env.kindOf n == some .cell) then (n, NameKind.cell) else (n, k)).lookup x = some .cell ∨
    (names.map fun (n, k) => if (k == NameKind.free && env.scope.kind == .function && env.kindOf n == some .cell) then (n, NameKind.cell) else (n, k)).lookup x = some .free) ->
    names.lookup x = some .cell ∨ names.lookup x = some .free
  | [], h => by simp at h
  | (n, k) :: r, h => by
    have ih := @relabel_back env x r
    have h : List.lookup x ((if (k == NameKind.free && env.scope.kind == .function && env.kindOf n == some .cell) = true then (n, NameKind.cell) else (n, k)) :: _) = _ ∨ List.lookup x ((if (k == NameKind.free && env.scope.kind == .function && env.kindOf n == some .cell) = true then (n, NameKind.cell) else (n, k)) :: _) = _ := h
    cases hx : x == n with
    | true =>
      by_cases hc : (k == NameKind.free && env.scope.kind == .function && env.kindOf n == some .cell) = true
      · have hk : k = .free := by
          have := (Bool.and_eq_true _ _ ▸ (Bool.and_eq_true _ _ ▸ hc).1 : (k == NameKind.free) = true /\ _).1
          simpa using this
        exact .inr (by simp only [List.lookup_cons, hx, hk])
      · rw [if_neg hc] at h
        simp only [List.lookup_cons, hx] at h ⊢
        exact h
    | false =>
      simp only [List.lookup_cons, hx]
      refine ih ?_
      by_cases hc : (k == NameKind.free && env.scope.kind == .function && env.kindOf n == some .cell) = true
      · rw [if_pos hc] at h; simp only [List.lookup_cons, hx] at h; exact h
      · rw [if_neg hc] at h; simp only [List.lookup_cons, hx] at h; exact h
def cCx (X : Cx) (N' : List Str) (scope : Scope) (s : Shared) (H : Hp) (ex : List Addr) : Cx :=
  { X with N := N', s₀ := s, H₀ := H, env := cEnv scope s.heap.objs.size X.env, outer := X.stack, ex := ex, fn := fun x => decide ((x, NameKind.cell) ∈ scope.names), pn := [], xe := fun _ _ => False }
structure CSc (X : Cx) (scope : Scope) (fr : List Str) (ix : List Nat) : Prop where
  kind : scope.kind = .function
  nd : (scope.names.map (·.1)).Nodup
  free : (scope.names.all fun y => y.2 != .free || X.env.kindOf y.1 == some .cell || X.env.kindOf y.1 == some .free) = true
  frs : (fr.all fun x => scope.names.lookup x == some .free) = true
  ixs : fr.map some = ix.map fun i => X.N[i]?
  loc : (scope.names.all fun y => y.2 != .local || scope.names.lookup y.1 == some .local) = true
def capt (n : Nat) (ix : List Nat) (σ : St) : St := List.replicate n none ++ ix.map fun i => (σ[i]?).join
section
variable {X : Cx} {scope : Scope} {fr loc : List Str} {ix : List Nat} {pins : List (Addr × Obj)} {σ : St} {H : Hp} {s : Shared}
theorem CSc.outer (S : CSc X scope fr ix) {y : Str × NameKind} (hy : y ∈ scope.names) (e : y.2 = .free) : X.env.kindOf y.1 = some .cell ∨ X.env.kindOf y.1 = some .free := by
  have h := List.all_eq_true.mp S.free y hy
  rw [e] at h
  simpa using h
theorem CSc.clos (S : CSc X scope fr ix) (ok : X.Ok) : ∀ y ∈ scope.names, y.2 = .free -> ∃ c, X.env.cells.lookup y.1 = some c := fun y hy e => ok.has y.1 (S.outer hy e)
theorem cells_cases (S : CSc X scope fr ix) (ok : X.Ok) {n : Nat} {x : Str} {c : Addr} (e : (cellsFrom n scope.names (closOf X.env.cells scope.names [])).lookup x = some c) :
    (ownC n scope.names).lookup x = some c ∨ X.env.cells.lookup x = some c := by
  rw [cellsFrom_own, List.lookup_append] at e
  cases q : (ownC n scope.names).lookup x with
  | some d => rw [q] at e; exact .inl e
  | none =>
    rw [q] at e
    exact .inr (closOf_old (S.clos ok) (fun _ _ z => by simp at z) x c e)
theorem inv_comp (S : CSc X scope fr ix) (I : Inv X pins σ H s) {ex : List Addr} (hex : ∀ b ∈ ex, FpOk X pins H b) {h' : Heap} (hk : ∀ b o, s.heap.get? b = some o -> h'.get? b = some o) (hn : h'.Ns s.heap.objs.size fun _ => none)
    (ho : ∀ x c, (ownC (s.heap.objs.size + 1) scope.names).lookup x = some c -> h'.IsCell c none /\ s.heap.objs.size < c) (ha : (ownC (s.heap.objs.size + 1) scope.names).Pairwise fun x y => x.2 ≠ y.2) (hlt : ∀ b ∈ ex, b < s.heap.objs.size) :
    Inv (cCx X (loc ++ fr) scope s H ex) [] (capt loc.length ix σ) H { s with heap := h' } := by
  have old : ∀ x c, X.env.cells.lookup x = some c -> c < s.heap.objs.size := fun x c e => let ⟨v, z⟩ := I.cell x c e; z.lt
  have lenix : fr.length = ix.length := by simpa using congrArg List.length S.ixs
  refine ⟨⟨I.ok.mod, ?_, I.ok.glob, I.ok.blt, Nat.le_refl _, ?_, ?_, ?_, I.ok.hd, I.ok.frames, .inl rfl, ?_, I.bs, Nat.le_trans I.ok.bsz I.sz, ?_, ?_, I.stack, I.stkFree⟩, rfl, I.bare, Un.kept hk, ⟨_, hn, ?_⟩, ?_, I.hok.fresh (Nat.le_refl _), ?_, ?_, I.hok.kept hk, ?_⟩
  · exact S.kind
  · intro x y c e1 e2
    rcases cells_cases S I.ok e1 with a | a <;> rcases cells_cases S I.ok e2 with b | b
    · exact name_of_addr ha (PySem.mem_of_lookup a) (PySem.mem_of_lookup b)
    · exact absurd (Nat.lt_trans (ho x c a).2 (old y c b)) (Nat.lt_irrefl _)
    · exact absurd (Nat.lt_trans (ho y c b).2 (old x c a)) (Nat.lt_irrefl _)
    · exact I.ok.inj x y c a b
  · intro x hx
    rcases relabel_back hx with e | e
    · exact Option.isSome_iff_exists.mp (PySem.W.cellsFrom_some _ _ _ (.inl e))
    · exact Option.isSome_iff_exists.mp (PySem.W.cellsFrom_some _ _ _ (.inr (closOf_has (.inr (PySem.mem_of_lookup e)))))
  · intro x c hf e
    have hf : (x, NameKind.cell) ∈ scope.names := of_decide_eq_true hf
    obtain ⟨d, hd⟩ := ownC_has scope.names (s.heap.objs.size + 1) x hf
    have e' : (cellsFrom (s.heap.objs.size + 1) scope.names (closOf X.env.cells scope.names [])).lookup x = some c := e
    rw [cellsFrom_own, List.lookup_append, hd] at e'
    cases e'
    exact Nat.le_of_lt (ho x _ hd).2
  · intro b hb
    refine ⟨Nat.ne_of_lt (hlt b hb), fun x c e z => ?_⟩
    rcases cells_cases S I.ok e with a | a
    · exact absurd (Nat.lt_trans (ho x c a).2 (by rw [z]; exact hlt b hb)) (Nat.lt_irrefl _)
    · exact (hex b hb).2.2.2.2.1 x c a z
  · intro b o e hb
    rcases (hex b hb).2.2.2.1 with z | z
    · exact I.ok.noex b o e z
    · exact absurd (Nat.lt_of_lt_of_le (Heap.lt_size (I.ok.bs b o e).1) z) (Nat.lt_irrefl _)
  · intro b hb hf
    rcases List.mem_cons.mp (I.stkSub b hf) with z | z
    · exact (hex b hb).2.1 z
    · exact (hex b hb).2.2.1 z
  · intro i x v e1 e2 e3
    have e1 : (loc ++ fr)[i]? = some x := e1
    unfold capt at e2
    by_cases hi : i < loc.length
    · rw [List.getElem?_append_left (by simpa using hi), List.getElem?_replicate] at e2
      split at e2 <;> cases e2
    · have hi' : loc.length <= i := Nat.not_lt.mp hi
      rw [List.getElem?_append_right (by simpa using hi')] at e2
      rw [List.getElem?_append_right hi'] at e1
      rw [List.length_replicate, List.getElem?_map] at e2
      generalize hj : i - loc.length = j at e1 e2
      have e4 : (fr.map some)[j]? = some (some x) := by rw [List.getElem?_map, e1]; rfl
      rw [S.ixs, List.getElem?_map] at e4
      cases q : ix[j]? with
      | none => rw [q] at e2; cases e2
      | some k =>
        rw [q] at e2 e4
        have e2 : (σ[k]?).join = some v := Option.some.inj e2
        have e4 : X.N[k]? = some x := Option.some.inj e4
        have e5 : σ[k]? = some (some v) := by
          cases w : σ[k]? with
          | none => rw [w] at e2; cases e2
          | some z => rw [w] at e2; simpa using e2
        have hfx := List.all_eq_true.mp S.frs x (List.mem_of_getElem? e1)
        have hfx : scope.names.lookup x = some .free := by simpa using hfx
        have hmem := PySem.mem_of_lookup hfx
        have hout := S.outer hmem rfl
        obtain ⟨m, hm, hl⟩ := I.loc
        obtain ⟨u, r, l⟩ := hl k x v e4 e5 (.inr hout)
        refine ⟨u, r, .inr ⟨relabel_kinds hfx, ?_⟩⟩
        rcases l with ⟨kk, _⟩ | ⟨kk, c, ec, z⟩
        · rcases hout with w | w
          · rw [kk] at w; cases w
          · rw [kk] at w; cases w
        · have own0 : (ownC (s.heap.objs.size + 1) scope.names).lookup x = none := by
            cases w : (ownC (s.heap.objs.size + 1) scope.names).lookup x with
            | none => rfl
            | some d => exact absurd (nodup_fun S.nd (ownC_key _ _ _ _ w) hmem) (by decide)
          have hc : (closOf X.env.cells scope.names []).lookup x = some c := by
            obtain ⟨d, hd⟩ := Option.isSome_iff_exists.mp (closOf_has (cells := X.env.cells) (acc := []) (.inr hmem))
            have := closOf_old (S.clos I.ok) (fun _ _ z => by simp at z) x d hd
            rw [ec] at this; cases this
            exact hd
          refine ⟨c, ?_, z.keeps hk⟩
          show (cellsFrom (s.heap.objs.size + 1) scope.names (closOf X.env.cells scope.names [])).lookup x = some c
          rw [cellsFrom_own, List.lookup_append, own0, hc]
          rfl
  · intro x c e
    rcases cells_cases S I.ok e with a | a
    · exact ⟨_, (ho x c a).1⟩
    · obtain ⟨v, z⟩ := I.cell x c a
      exact ⟨v, z.keeps hk⟩
  · intro x c e
    rcases cells_cases S I.ok e with a | a
    · exact I.hok.fresh (Nat.le_of_lt (ho x c a).2)
    · exact I.freeC x c a
  · intro p hp
    cases hp
  · unfold capt
    show _ = (loc ++ fr).length
    simp [lenix]
end
end L2
namespace L2
open PySem PySem.Spec PyProof.Rows
section
variable {prog : Program} {w : World} {A : Around} {R : Result -> Shared -> Prop} {s : Shared}
theorem compLoop_any {elt target iter : Expr} {ifs : List Expr} {scope : Scope} {pos : Pos} {it acc : Value} {env : Env} (I : Nat -> Shared -> Prop)
    (turn : ∀ n s, I n s -> wpAny (model prog w) A (pyNext it) (fun r s₁ => match r with
      | none => R (.ok .next) s₁
      | some v => wpAny (model prog w) A (letOwnedTupleGo target it v) (fun _ s₁ => wpAny (model prog w) A (assign target env v) (fun _ s₂ =>
          wpAny (model prog w) A (forIn ifs true fun c r => if r = true then do let ok <- isTrue c env (eval c env); pure (ForInStep.yield ok) else pure (ForInStep.yield r)) (fun ok s₃ =>
            if ok = true then wpAny (model prog w) A (eval elt env) (fun x s₄ =>
              wpAny (model prog w) A (call (.builtin "list.append") [acc, x]) (fun _ s₅ => ∃ m, m < n /\ I m s₅) (fun _ _ => False) s₄) (fun _ _ => False) s₃
            else ∃ m, m < n /\ I m s₃) (fun _ _ => False) s₂) (fun _ _ => False) s₁) (fun _ _ => False) s₁) (fun _ _ => False) s)
    (n : Nat) (h : I n s) :
    codeAny (model prog w) A (.compLoop (.ListComp elt [⟨target, iter, ifs, 0⟩] scope pos) 0 it acc env) R s := by
  refine codeAny_loop rfl I (fun n s hI => ?_) n h
  show wpAny _ A ((compTurn (.ListComp elt [⟨target, iter, ifs, 0⟩] scope pos) 0 it acc env).onRaise (fun x => do noteFrame x env; theTreesLotGoes x)) _ _ s
  refine wpAny_noted ?_
  rw [compTurn_list]
  refine wpAny_bind (wpAny_standAt (wpAny_bind (wpAny_mono (turn n s hI) (fun r s₁ h₁ => ?_) fun _ _ h' => h'.elim)))
  cases r with
  | none => exact wpAny_pure h₁
  | some v =>
    refine wpAny_bind (wpAny_mono h₁ (fun _ s₁ h₁ => ?_) fun _ _ h' => h'.elim)
    refine wpAny_bind (wpAny_mono h₁ (fun _ s₂ h₂ => wpAny_bind (wpAny_mono h₂ (fun ok s₃ h₃ => ?_) fun _ _ h' => h'.elim)) fun _ _ h' => h'.elim)
    cases ok with
    | false => exact wpAny_pure ⟨rfl, h₃⟩
    | true =>
      exact wpAny_bind (wpAny_bind (wpAny_mono h₃ (fun x s₄ h₄ => wpAny_bind (wpAny_mono h₄ (fun _ s₅ h₅ => wpAny_pure (wpAny_pure ⟨rfl, h₅⟩)) fun _ _ h' => h'.elim)) fun _ _ h' => h'.elim))
end
def PF (X : Cx) (ifs : List Expr) (t : TT) : Prop :=
  ∀ (pins : List (Addr × Obj)) (s : Shared) (σ : St) (H : Hp) (Q : Bool -> Hp -> Prop), Inv X pins σ H s -> t σ H Q ->
    wpAny (model X.prog X.w) X.A (forIn ifs true fun c r => if r = true then do let ok <- isTrue c X.env (eval c X.env); pure (ForInStep.yield ok) else pure (ForInStep.yield r)) (TP X pins σ Q) X.xe s
def tYes : TT := fun _ H Q => Q true H
theorem pf_nil {X : Cx} : PF X [] tYes := fun pins s σ H Q I h => wpAny_tests_nil ⟨H, I, h⟩
theorem pf_one {X : Cx} {c : Expr} {t : TT} (h : PT X c t) : PF X [c] t := fun pins s σ H Q I q => wpAny_tests_one (h pins s σ H Q I q)
def CompW (J : It) (D : Addr) (σ0 : St) (H0 : Hp) (g : TG) (tf : TT) (te : TE) (Q : VK) : Prop := ∃ W : Nat -> Nat -> St -> List V -> Hp -> Prop,
  (∃ m, W 0 m σ0 [] (upd H0 D (.lst []))) /\ ∀ i m σ ys H, W i m σ ys H -> H D = some (.lst ys) /\
    ((J.stop i H /\ Q (.ref D) H) ∨ (J.go i H /\ ys.length < sizeLine /\ ∃ N : St -> List V -> Hp -> Prop, (∀ σ' ys' H', N σ' ys' H' -> ∃ m', m' < m /\ W (i + 1) m' σ' ys' H') /\
      ∀ x H', J.yld i H x H' -> g x σ H' fun σ2 H2 => tf σ2 H2 fun b H3 =>
        if b = true then te σ2 H3 fun v H4 => H4 D = some (.lst ys) /\ N σ2 (ys ++ [v]) (upd H4 D (.lst (ys ++ [v])))
        else N σ2 ys H3))
def tComp (n : Nat) (ix : List Nat) (wi : TI) (g : TG) (tf : TT) (te : TE) : TE := fun σ H Q => wi σ H fun J H1 => ∀ D, H1 D = none -> CompW J D (capt n ix σ) H1 g tf te Q
section
variable {X : Cx}
theorem app_ok {pins : List (Addr × Obj)} {σ : St} {H : Hp} {s : Shared} {D : Addr} {ys : List V} {x : V} {u : Value} {Q : Value -> Shared -> Prop} {E : Value -> Shared -> Prop} (I : Inv X pins σ H s) (hD : H D = some (.lst ys)) (r : RelV x u) (hz : ys.length < sizeLine)
    (h : ∀ v s', Inv X pins σ (upd H D (.lst (ys ++ [x]))) s' -> Q v s') : wpAny (model X.prog X.w) X.A (call (.builtin "list.append") [.ref D, u]) Q E s := by
  have I' := I.wish fun _ _ => False
  have q := mt_append (X := X.wish fun _ _ => False) pins s σ H (.ref D) [x] (.ref D) [u] (fun v H' => H' = upd H D (.lst (ys ++ [x]))) I' rfl (.cons r .nil) ⟨D, ys, x, rfl, rfl, hD, hz, rfl⟩
  refine wpAny_mono q (fun v s' ⟨v', H', I2, _, e⟩ => ?_) fun _ _ z => False.elim z
  subst e
  exact h v s' I2.unwish
theorem pe_comp {elt tg iter : Expr} {ifs : List Expr} {scope : Scope} {pos : Pos} {loc fr : List Str} {ix : List Nat} {wi : TI} {g : TG} {tf : TT} {te : TE} (hc : X.calm = true) (S : CSc X scope fr ix) (hi : PI X tg iter wi)
    (hg : ∀ s H ex, PG (cCx X (loc ++ fr) scope s H ex) tg g) (hf : ∀ s H ex, PF (cCx X (loc ++ fr) scope s H ex) ifs tf) (he : ∀ s H ex, PE (cCx X (loc ++ fr) scope s H ex) elt te)
    (hs : ∀ x, foldedSetIterable iter X.env x = pure x := by intro _; rfl) : PE X (.ListComp elt [⟨tg, iter, ifs, 0⟩] scope pos) (tComp loc.length ix wi g tf te) := by
  intro pins s σ H Q I h
  rw [eval_ListComp]
  have hnames : ∀ y ∈ scope.names, y.2 = .local -> scope.names.lookup y.1 = some .local := fun y hy e => by
    have := List.all_eq_true.mp S.loc y hy
    rw [e] at this
    simpa using this
  refine wpAny_comprehension_free (use := none) rfl hs (closureFor_eq (S.clos I.ok)) S.kind hnames (thn (hi pins s σ H _ I h) fun v s1 h1 => thn h1 fun itv s2 h2 => ?_)
  obtain ⟨it, fp, tn, J, H2, rfl, I2, T, st2, f2, hW⟩ := h2
  refine wpAny_newObj_type ?_
  have fresh2 : H2 s2.heap.objs.size = none := I2.hok.fresh (Nat.le_refl _)
  have I3 := I2.lnew (its := []) (ys := []) (t' := s2.toks) .nil (Nat.zero_le _)
  obtain ⟨W, ⟨m0, w0⟩, turn⟩ := hW s2.heap.objs.size fresh2
  have lt2 : ∀ b ∈ fp, b < s2.heap.objs.size := fun b hb => let ⟨o, e, _⟩ := T.obj 0 _ st2 b hb; Heap.lt_size e
  have f3 : ∀ b ∈ fp, FpOk X pins (upd H2 s2.heap.objs.size (.lst [])) b := fun b hb => ⟨by rw [upd_ne (Nat.ne_of_lt (lt2 b hb))]; exact (f2 b hb).1, (f2 b hb).2⟩
  have lt3 : ∀ b ∈ fp, b < (s2.heap.push { cls := .type "list", data := .seq ([] : List Value).toArray }).objs.size := fun b hb => by rw [Heap.size_push]; exact Nat.lt_succ_of_lt (lt2 b hb)
  generalize hs3 : ({ s2 with heap := s2.heap.push { cls := .type "list", data := .seq ([] : List Value).toArray } } : Shared) = s3 at *
  have lt3 : ∀ b ∈ fp, b < s3.heap.objs.size := by rw [<- hs3]; exact lt3
  have st3 : tn 0 s3.heap := T.keep _ _ _ st2 fun b hb o e => by rw [<- hs3]; exact Heap.get?_push_of_some _ e
  refine newEnvC fun h' hk hn ho ha => ?_
  have I4 := inv_comp (loc := loc) S I3 f3 hk hn ho ha lt3
  have fpX : ∀ {H' : Hp}, (∀ b ∈ fp, H' b = none) -> ∀ b ∈ fp, FpOk (cCx X (loc ++ fr) scope s3 (upd H2 s2.heap.objs.size (.lst [])) fp) [] H' b := fun hn b hb =>
    ⟨hn b hb, (I4.ok.exf b hb).1, I4.ok.exfs b hb, .inl hb, (I4.ok.exf b hb).2, fun p hp => by cases hp⟩
  have loop : codeAny (model X.prog X.w) X.A (.compLoop (.ListComp elt [⟨tg, iter, ifs, 0⟩] scope pos) 0 (.ref it) (.ref s2.heap.objs.size) (cEnv scope s3.heap.objs.size X.env))
      (compPost (model X.prog X.w) X.A X.xe none (EP X pins σ Q) (.ref s2.heap.objs.size) s3.heap.objs.size) { s3 with heap := h' } := by
    refine compLoop_any (fun n s' => ∃ i σ' ys H', Inv (cCx X (loc ++ fr) scope s3 (upd H2 s2.heap.objs.size (.lst [])) fp) [] σ' H' s' /\ tn i s'.heap /\ (∀ b ∈ fp, H' b = none) /\ W i n σ' ys H') ?_ m0
      ⟨0, _, [], _, I4, T.keep _ _ _ st3 fun b hb o e => hk b o e, fun b hb => (f3 b hb).1, w0⟩
    rintro n s5 ⟨i, σ5, ys, H5, I5, st5, fr5, w5⟩
    obtain ⟨hD, w5⟩ := turn i n σ5 ys H5 w5
    rcases w5 with ⟨stop, qn⟩ | ⟨go, hz, N, hN, step⟩
    · refine thn (T.done (cCx X (loc ++ fr) scope s3 (upd H2 s2.heap.objs.size (.lst [])) fp) rfl rfl rfl hc i [] s5 σ5 H5 _ I5 (fpX fr5) st5 stop) fun r s6 ⟨hr, I6⟩ => ?_
      subst hr
      obtain ⟨m, hm, _⟩ := I6.loc
      refine ⟨m, hm, fun h'' hs => ?_⟩
      have neC : ∀ b o, s3.heap.get? b = some o -> b ≠ s3.heap.objs.size := fun b o e => Nat.ne_of_lt (Heap.lt_size e)
      have un := I6.base
      refine ⟨.ref s2.heap.objs.size, H5, I3.call' (s' := { s6 with heap := h'' }) (ch := fp) I6.os ⟨fun b o e n hb hx => ?_, fun b o e n hb hx => ?_, un.free, fun b o e hx => ?_, un.tups, un.frzs, un.tbls⟩ ?_ I6.bare ?_, rfl, qn⟩
      · exact (hs.2 b (neC b o e)).trans (un.keep b o e n hb hx)
      · obtain ⟨sl, q⟩ := un.slot b o e n hb hx
        exact ⟨sl, (hs.2 b (neC b o e)).trans q⟩
      · obtain ⟨o', q⟩ := un.there b o e hx
        exact ⟨o', (hs.2 b (neC b o e)).trans q⟩
      · intro b ob e
        have hfree : H5 s3.heap.objs.size = none := I6.free
        refine (I6.hok b ob e).stay (fun c w' hc q => (hs.2 c ?_).trans q) (fun _ q => q) fun _ _ q => q
        intro z
        rcases hc with hc | hc
        · rw [<- hc, z, hfree] at e; cases e
        · rw [z, hfree] at hc; cases hc
      · intro b hb
        obtain ⟨_, a2, _, a4, a5, a6⟩ := f3 b hb
        exact ⟨a4, a2, a5, a6⟩
    · refine thn (T.item (cCx X (loc ++ fr) scope s3 (upd H2 s2.heap.objs.size (.lst [])) fp) rfl rfl rfl hc i [] s5 σ5 H5 _ I5 (fpX fr5) st5 go) fun r s6 ⟨u, hr, h6⟩ => ?_
      subst hr
      refine thn h6 fun _ s7 ⟨x, H7, I7, r7, y7, st7, fr7⟩ => ?_
      have I7' := I7.pinned (fpX fr7) (T.obj _ _ st7)
      have keepI : ∀ {σ8 : St} {H8 : Hp} {s8 : Shared}, Inv (cCx X (loc ++ fr) scope s3 (upd H2 s2.heap.objs.size (.lst [])) fp) ([] ++ pinsAt fp s7.heap) σ8 H8 s8 -> tn (i + 1) s8.heap /\ ∀ b ∈ fp, H8 b = none := fun {σ8 H8 s8} I8 => by
        refine ⟨T.keep _ _ _ st7 fun b hb o e => (I8.pin (b, o) (List.mem_append_right _ (List.mem_append_right _ (mem_pinsAt hb e)))).1, fun b hb => ?_⟩
        obtain ⟨o, e, d⟩ := T.obj _ _ st7 b hb
        exact (I8.pin (b, o) (List.mem_append_right _ (List.mem_append_right _ (mem_pinsAt hb e)))).2.1
      refine thn (hg s3 (upd H2 s2.heap.objs.size (.lst [])) fp _ s7 σ5 H7 x u _ I7' r7 (step x H7 y7)) fun _ s8 ⟨σ8, H8, I8, q8⟩ => ?_
      refine thn (hf s3 (upd H2 s2.heap.objs.size (.lst [])) fp _ s8 σ8 H8 _ I8 q8) fun b s9 ⟨H9, I9, q9⟩ => ?_
      cases b with
      | false =>
        rw [if_neg Bool.false_ne_true] at q9 ⊢
        obtain ⟨m', hm, w9⟩ := hN _ _ _ q9
        exact ⟨m', hm, i + 1, σ8, ys, H9, I9.unpinned, (keepI I9).1, (keepI I9).2, w9⟩
      | true =>
        rw [if_pos rfl] at q9 ⊢
        refine thn (he s3 (upd H2 s2.heap.objs.size (.lst [])) fp _ s9 σ8 H9 _ I9 q9) fun e10 s10 ⟨v10, H10, I10, r10, hD10, n10⟩ => ?_
        obtain ⟨m', hm, w10⟩ := hN _ _ _ n10
        refine app_ok (X := cCx X (loc ++ fr) scope s3 (upd H2 s2.heap.objs.size (.lst [])) fp) I10 hD10 r10 hz fun _ s11 I11 => ?_
        exact ⟨m', hm, i + 1, σ8, _, _, I11.unpinned, (keepI I11).1, (keepI I11).2, w10⟩
  exact codeAny_compStart_list loop (T.self X.A 0 _ _ _ (T.keep _ _ _ st3 fun b hb o e => hk b o e) loop)
end
end L2
namespace L2
open PySem PySem.Spec PyProof.Rows
mutual
def Rep (K : PySem.W.Frag) (H : Hp) : PyData -> V -> Prop
  | .none, v => v = .non
  | .bool b, v => v = .bl b
  | .int i, v => v = .int i
  | .str x, v => v = .str x
  | .list ds, v => ∃ a xs, v = .ref a /\ SqL K H a xs /\ RepAll K H ds xs
  | .tuple ds, v => ∃ a xs, v = .ref a /\ SqT K H a xs /\ RepAll K H ds xs
  | .dict _, _ => False
def RepAll (K : PySem.W.Frag) (H : Hp) : List PyData -> List V -> Prop
  | [], xs => xs = []
  | d :: ds, xs => ∃ x r, xs = x :: r /\ Rep K H d x /\ RepAll K H ds r
end
section
variable {X : Cx} {pins : List (Addr × Obj)} {σ : St} {H : Hp} {s : Shared}
mutual
theorem rep_reads (I : Inv X pins σ H s) : ∀ (d : PyData) (v : V) (u : Value), Rep X.K H d v -> RelV v u -> ∃ as, Reads s.heap u d as
  | .none, v, u, h, r => by
    have h : v = .non := by simpa only [Rep] using h
    subst h; cases r; exact ⟨_, .none⟩
  | .bool b, v, u, h, r => by
    have h : v = .bl b := by simpa only [Rep] using h
    subst h; cases r; exact ⟨_, .bool b⟩
  | .int i, v, u, h, r => by
    have h : v = .int i := by simpa only [Rep] using h
    subst h; obtain ⟨t, rfl⟩ := r; exact ⟨_, .int i t⟩
  | .str x, v, u, h, r => by
    have h : v = .str x := by simpa only [Rep] using h
    subst h; obtain ⟨t, rfl⟩ := r; exact ⟨_, .str x t⟩
  | .list ds, v, u, h, r => by
    have h : ∃ a xs, v = .ref a /\ SqL X.K H a xs /\ RepAll X.K H ds xs := by simpa only [Rep] using h
    obtain ⟨a, xs, rfl, hq, ha⟩ := h
    cases r
    obtain ⟨its, rv, ⟨o, n, e, c, _, dd⟩, hz⟩ := I.list hq
    obtain ⟨as, q⟩ := rep_readsAll I ds xs its ha rv
    exact ⟨_, .list e c dd (by simpa using q)⟩
  | .tuple ds, v, u, h, r => by
    have h : ∃ a xs, v = .ref a /\ SqT X.K H a xs /\ RepAll X.K H ds xs := by simpa only [Rep] using h
    obtain ⟨a, xs, rfl, hq, ha⟩ := h
    cases r
    obtain ⟨its, rv, ⟨o, e, c, n, dd⟩, hz⟩ := I.tuple hq
    obtain ⟨as, q⟩ := rep_readsAll I ds xs its ha rv
    exact ⟨_, .tuple e c dd (by simpa using q)⟩
  | .dict _, v, u, h, r => by
    have h : False := by simpa only [Rep] using h
    exact h.elim
theorem rep_readsAll (I : Inv X pins σ H s) : ∀ (ds : List PyData) (xs : List V) (us : List Value), RepAll X.K H ds xs -> Vals xs us -> ∃ as, ReadsAll s.heap us ds as
  | [], xs, us, h, r => by
    have h : xs = [] := by simpa only [RepAll] using h
    subst h; cases r; exact ⟨_, .nil⟩
  | d :: ds, xs, us, h, r => by
    have h : ∃ x r, xs = x :: r /\ Rep X.K H d x /\ RepAll X.K H ds r := by simpa only [RepAll] using h
    obtain ⟨x, rr, rfl, h1, h2⟩ := h
    cases r with
    | cons r1 r2 =>
      obtain ⟨as, q1⟩ := rep_reads I d _ _ h1 r1
      obtain ⟨bs, q2⟩ := rep_readsAll I ds _ _ h2 r2
      exact ⟨_, .cons q1 q2⟩
end
end
def Keep (S : List Addr) (H H' : Hp) : Prop := ∀ b o, H b = some o -> b ∉ S -> H' b = some o
theorem Keep.trans {S : List Addr} {H H1 H2 : Hp} (a : Keep S H H1) (b : Keep S H1 H2) : Keep S H H2 := fun c o h n => b c o (a c o h n) n
theorem Keep.mono {S S' : List Addr} {H H' : Hp} (a : Keep S H H') (h : ∀ b ∈ S, b ∈ S') : Keep S' H H' := fun c o e n => a c o e fun z => n (h c z)
structure Grow (H H' : Hp) : Prop where
  tup : ∀ b xs, H b = some (.tup xs) -> H' b = some (.tup xs)
  frz : ∀ b o u, H b = some (.frz o u) -> H' b = some (.frz o u)
theorem Grow.refl {H : Hp} : Grow H H := ⟨fun _ _ h => h, fun _ _ _ h => h⟩
theorem Grow.trans {H H1 H2 : Hp} (a : Grow H H1) (b : Grow H1 H2) : Grow H H2 := ⟨fun c xs h => b.tup c xs (a.tup c xs h), fun c o u h => b.frz c o u (a.frz c o u h)⟩
def Chg (H : Hp) (p : Addr) : Prop := (∀ xs, H p ≠ some (.tup xs)) /\ ∀ o u, H p ≠ some (.frz o u)
theorem Grow.put {H H' : Hp} {p : Addr} {o : HO} (a : Grow H H') (h : Chg H' p) : Grow H (upd H' p o) := ⟨fun c xs e => by
  have q := a.tup c xs e
  have n : c ≠ p := fun z => h.1 xs (by rw [<- z]; exact q)
  rw [upd_ne n]; exact q, fun c z u e => by
  have q := a.frz c z u e
  have n : c ≠ p := fun w => h.2 z u (by rw [<- w]; exact q)
  rw [upd_ne n]; exact q⟩
theorem Chg.dK {H : Hp} {p : Addr} {kvs : List (Key × V)} (h : H p = some (.dK kvs)) : Chg H p := ⟨(fun _ e => by rw [h] at e; cases e), (fun _ _ e => by rw [h] at e; cases e)⟩
theorem Chg.lst {H : Hp} {p : Addr} {xs : List V} (h : H p = some (.lst xs)) : Chg H p := ⟨(fun _ e => by rw [h] at e; cases e), (fun _ _ e => by rw [h] at e; cases e)⟩
theorem Grow.sq {K : PySem.W.Frag} {H H' : Hp} {a : Addr} {xs : List V} (g : Grow H H') (h : SqT K H a xs) : SqT K H' a xs := by
  rcases h with (h | ⟨o, h⟩) | h
  · exact .inl (.inl (g.tup _ _ h))
  · exact .inl (.inr ⟨o, g.frz _ _ _ h⟩)
  · exact .inr h
section
variable {X : Cx}
def rNeD (K : PySem.W.Frag) : R2 := fun x y H Q => ∃ d e, Rep K H d x /\ Rep K H e y /\ d.canLay0 = true /\ e.canLay0 = true /\ min d.depth e.depth <= 60 /\ Q (.bl (!PyData.eqv d e)) H
def rEqD (K : PySem.W.Frag) : R2 := fun x y H Q => ∃ d e, Rep K H d x /\ Rep K H e y /\ d.canLay0 = true /\ e.canLay0 = true /\ min d.depth e.depth <= 60 /\ Q (.bl (PyData.eqv d e)) H
theorem op_neD (hu : X.A.units + 64 < cLine) : OpR X (compareOp .NotEq) (rNeD X.K) := by
  intro pins s σ H x y v u Q I rx ry h
  obtain ⟨d, e, h1, h2, c1, c2, hm, q⟩ := h
  obtain ⟨as, q1⟩ := rep_reads I d x v h1 rx
  obtain ⟨bs, q2⟩ := rep_reads I e y u h2 ry
  exact PySem.SeqAt.compareNe_reads q1 q2 c1 c2 (by omega) ⟨.bl _, H, I, rfl, q⟩
theorem op_eqD (hu : X.A.units + 64 < cLine) : OpR X (compareOp .Eq) (rEqD X.K) := by
  intro pins s σ H x y v u Q I rx ry h
  obtain ⟨d, e, h1, h2, c1, c2, hm, q⟩ := h
  obtain ⟨as, q1⟩ := rep_reads I d x v h1 rx
  obtain ⟨bs, q2⟩ := rep_reads I e y u h2 ry
  exact PySem.SeqAt.compareEq_reads q1 q2 c1 c2 (by omega) ⟨.bl _, H, I, rfl, q⟩
theorem ints_of : ∀ {ns : List Int} {us : List Value}, Vals (ns.map V.int) us -> IntsAre us ns
  | [], _, .nil => .nil
  | n :: ns, _, .cons r t => by obtain ⟨k, rfl⟩ := r; exact .cons _ _ (ints_of t)
theorem call_sumL (hc : X.calm = true) : CallR X (.builtin "sum") (fun xs H Q => ∃ (a : Addr) (ns : List Int), xs = [.ref a] /\ SqL X.K H a (ns.map V.int) /\ Q (.int ns.sum) H) := by
  intro pins s σ H xs us Q I r h
  obtain ⟨a, ns, rfl, hq, q⟩ := h
  obtain ⟨u, rfl, ru⟩ := vals1 r
  cases ru
  obtain ⟨its, rv, p, hz⟩ := I.list hq
  have hi := ints_of rv
  obtain ⟨xs, hx⟩ := hi.allInts.items
  have hl' : s.heap.IsList a (intItems xs) := hx ▸ p.isList
  refine sum_intListG (I.ok.hd hc) hl' fun h' tk t' hk => ?_
  have e1 : ns = xs.toList.map (·.1) := by
    rw [<- nums_intItems, <- hx]
    exact (show numsOf its.toArray.toList = ns from hi.numsOf).symm
  have e2 : preSum (numAt xs) xs.size = ns.sum := by
    rw [preSum_eq, List.take_of_length_le (by simp), e1]
  rw [e2]
  exact ⟨.int ns.sum, H, I.kept hk, ⟨_, rfl⟩, q⟩
end
end L2
namespace L2
open PySem PySem.Spec PyProof.Rows
structure DefAt (K : PySem.W.Frag) (mg : Str -> Option Value) (x : Str) (st : Stmt) (f : Addr) (fd : FuncData) (ps : List Str) : Prop where
  fn : Fun K x x st f fd
  mg : mg x = some (.ref f)
  bd : Binds K fd ps []
theorem pcall {X : Cx} {j k : Nat} {f : Addr} {fd : FuncData} {ps : List Str} {sp : Sp} {x : Str} {st : Stmt} {e : Expr} {es : List Expr} {t : TA} {p pos : Pos} (F : FnOk X.prog X.w X.K X.mg X.base CX0 j f fd ps sp) (hr : Room k X.A) (D : DefAt X.K X.mg x st f fd ps) (ha : PA X (e :: es) t)
    (hjk : j <= k := by decide) (hg : Gl X x := by rfl) (hdb : (x == ("__debug__" : Str)) = false := by decide) (he : starEach (e :: es) X.env = (false, eval e X.env) :: starEach es X.env := by rfl) (hpl : (backTo pos (starEach es X.env)).any (·.1) = false := by rfl) :
    PE X (.Call (.Name x p) (e :: es) [] pos) (tCall sp [] E0 t) :=
  pe_call (F.mono hjk) hr hg D.mg D.fn.kp D.bd .nil pass0 ha hdb he hpl
theorem bt_list : bootBuiltins "list" = some (.type "list") := by decide +kernel
theorem bt_tuple : bootBuiltins "tuple" = some (.type "tuple") := by decide +kernel
theorem bt_len : bootBuiltins "len" = some (.builtin "len") := by decide +kernel
theorem bt_sum : bootBuiltins "sum" = some (.builtin "sum") := by decide +kernel
theorem bt_min : bootBuiltins "min" = some (.builtin "min") := by decide +kernel
theorem bt_max : bootBuiltins "max" = some (.builtin "max") := by decide +kernel
theorem bt_abs : bootBuiltins "abs" = some (.builtin "abs") := by decide +kernel
theorem bt_sorted : bootBuiltins "sorted" = some (.builtin "sorted") := by decide +kernel
theorem bt_all : bootBuiltins "all" = some (.builtin "all") := by decide +kernel
theorem bt_any : bootBuiltins "any" = some (.builtin "any") := by decide +kernel
theorem bt_isinstance : bootBuiltins "isinstance" = some (.builtin "isinstance") := by decide +kernel
def tapeKV (c : Addr) (n l u : Int) : List (Key × V) := [(.inr "cells", .ref c), (.inr "next", .int n), (.inr "left", .int l), (.inr "turn", .int u)]
section
variable (c : Addr) (n l u v : Int)
end
def Tape (H : Hp) (t c : Addr) : Prop := ∃ (ns : List Int) (n l u : Int), H t = some (.dK (tapeKV c n l u)) /\ H c = some (.lst (ns.map V.int)) /\ 0 <= n
theorem Tape.keep {H H' : Hp} {t c : Addr} (T : Tape H t c) (k : Keep [] H H') : Tape H' t c := by
  obtain ⟨ns, n, l, u, h1, h2, h3⟩ := T
  exact ⟨ns, n, l, u, k _ _ h1 (by simp), k _ _ h2 (by simp), h3⟩
mutual
theorem canLay_ints : ∀ ns : List Int, PyData.canLayAll0 (ns.map PyData.int) = true
  | [] => by simp [PyData.canLayAll0]
  | n :: ns => by simp [PyData.canLayAll0, PyData.canLay0, canLay_ints ns]
end
end L2
namespace L2
open PySem PySem.Spec PyProof.Rows
section
variable {X : Cx}
theorem comp_block {elt tg iter : Expr} {ifs : List Expr} {scope : Scope} {pos : Pos} {loc fr : List Str} {ix : List Nat} {g : TG} {tf : TT} {te : TE} {pins : List (Addr × Obj)} {σ : St} {Q : VK} {it : Addr} {fp : List Addr} {tn : Nat -> Heap -> Prop} {J : It} {H2 : Hp} {s2 : Shared} {E : Value -> Shared -> Prop}
    {RR : Value -> Addr -> Result -> Shared -> Prop} (hc : X.calm = true) (S : CSc X scope fr ix)
    (hg : ∀ s H ex, PG (cCx X (loc ++ fr) scope s H ex) tg g) (hf : ∀ s H ex, PF (cCx X (loc ++ fr) scope s H ex) ifs tf) (he : ∀ s H ex, PE (cCx X (loc ++ fr) scope s H ex) elt te)
    (I2 : Inv X pins σ H2 s2) (T : Turn X.prog X.w X.K tg J fp it tn) (st2 : tn 0 s2.heap) (f2 : ∀ b ∈ fp, FpOk X pins H2 b) (hW : ∀ D, H2 D = none -> CompW J D (capt loc.length ix σ) H2 g tf te Q)
    (hfin : ∀ (s3 s6 : Shared) (H5 : Hp) (σ5 : St) (D : Addr), Inv X pins σ (upd H2 D (.lst [])) s3 -> Inv (cCx X (loc ++ fr) scope s3 (upd H2 D (.lst [])) fp) [] σ5 H5 s6 -> (∀ b ∈ fp, FpOk X pins (upd H2 D (.lst [])) b) -> Q (.ref D) H5 -> RR (.ref D) s3.heap.objs.size (.ok .next) s6) :
    wpAny (model X.prog X.w) X.A (newList []) (fun acc s₃ => wpAny (model X.prog X.w) X.A (newFunctionEnv scope X.env.globals (closOf X.env.cells scope.names []) [] X.env.qual none .none (some X.env)) (fun cenv s₄ =>
      codeAny (model X.prog X.w) X.A (.compStart (.ListComp elt [⟨tg, iter, ifs, 0⟩] scope pos) 0 (.ref it) acc { cenv with scope := relabel scope X.env }) (RR acc cenv.locals) s₄) E s₃) E s2 := by
  refine wpAny_newObj_type ?_
  have fresh2 : H2 s2.heap.objs.size = none := I2.hok.fresh (Nat.le_refl _)
  have I3 := I2.lnew (its := []) (ys := []) (t' := s2.toks) .nil (Nat.zero_le _)
  obtain ⟨W, ⟨m0, w0⟩, turn⟩ := hW s2.heap.objs.size fresh2
  have lt2 : ∀ b ∈ fp, b < s2.heap.objs.size := fun b hb => let ⟨o, e, _⟩ := T.obj 0 _ st2 b hb; Heap.lt_size e
  have f3 : ∀ b ∈ fp, FpOk X pins (upd H2 s2.heap.objs.size (.lst [])) b := fun b hb => ⟨by rw [upd_ne (Nat.ne_of_lt (lt2 b hb))]; exact (f2 b hb).1, (f2 b hb).2⟩
  have lt3 : ∀ b ∈ fp, b < (s2.heap.push { cls := .type "list", data := .seq ([] : List Value).toArray }).objs.size := fun b hb => by rw [Heap.size_push]; exact Nat.lt_succ_of_lt (lt2 b hb)
  generalize hs3 : ({ s2 with heap := s2.heap.push { cls := .type "list", data := .seq ([] : List Value).toArray } } : Shared) = s3 at *
  have lt3 : ∀ b ∈ fp, b < s3.heap.objs.size := by rw [<- hs3]; exact lt3
  have st3 : tn 0 s3.heap := T.keep _ _ _ st2 fun b hb o e => by rw [<- hs3]; exact Heap.get?_push_of_some _ e
  refine newEnvC fun h' hk hn ho ha => ?_
  have I4 := inv_comp (loc := loc) S I3 f3 hk hn ho ha lt3
  have fpX : ∀ {H' : Hp}, (∀ b ∈ fp, H' b = none) -> ∀ b ∈ fp, FpOk (cCx X (loc ++ fr) scope s3 (upd H2 s2.heap.objs.size (.lst [])) fp) [] H' b := fun hn b hb =>
    ⟨hn b hb, (I4.ok.exf b hb).1, I4.ok.exfs b hb, .inl hb, (I4.ok.exf b hb).2, fun p hp => by cases hp⟩
  have loop : codeAny (model X.prog X.w) X.A (.compLoop (.ListComp elt [⟨tg, iter, ifs, 0⟩] scope pos) 0 (.ref it) (.ref s2.heap.objs.size) (cEnv scope s3.heap.objs.size X.env))
      (RR (.ref s2.heap.objs.size) s3.heap.objs.size) { s3 with heap := h' } := by
    refine compLoop_any (fun n s' => ∃ i σ' ys H', Inv (cCx X (loc ++ fr) scope s3 (upd H2 s2.heap.objs.size (.lst [])) fp) [] σ' H' s' /\ tn i s'.heap /\ (∀ b ∈ fp, H' b = none) /\ W i n σ' ys H') ?_ m0
      ⟨0, _, [], _, I4, T.keep _ _ _ st3 fun b hb o e => hk b o e, fun b hb => (f3 b hb).1, w0⟩
    rintro n s5 ⟨i, σ5, ys, H5, I5, st5, fr5, w5⟩
    obtain ⟨hD, w5⟩ := turn i n σ5 ys H5 w5
    rcases w5 with ⟨stop, qn⟩ | ⟨go, hz, N, hN, step⟩
    · refine thn (T.done (cCx X (loc ++ fr) scope s3 (upd H2 s2.heap.objs.size (.lst [])) fp) rfl rfl rfl hc i [] s5 σ5 H5 _ I5 (fpX fr5) st5 stop) fun r s6 ⟨hr, I6⟩ => ?_
      subst hr
      exact hfin s3 s6 H5 σ5 s2.heap.objs.size I3 I6 f3 qn
    · refine thn (T.item (cCx X (loc ++ fr) scope s3 (upd H2 s2.heap.objs.size (.lst [])) fp) rfl rfl rfl hc i [] s5 σ5 H5 _ I5 (fpX fr5) st5 go) fun r s6 ⟨u, hr, h6⟩ => ?_
      subst hr
      refine thn h6 fun _ s7 ⟨x, H7, I7, r7, y7, st7, fr7⟩ => ?_
      have I7' := I7.pinned (fpX fr7) (T.obj _ _ st7)
      have keepI : ∀ {σ8 : St} {H8 : Hp} {s8 : Shared}, Inv (cCx X (loc ++ fr) scope s3 (upd H2 s2.heap.objs.size (.lst [])) fp) ([] ++ pinsAt fp s7.heap) σ8 H8 s8 -> tn (i + 1) s8.heap /\ ∀ b ∈ fp, H8 b = none := fun {σ8 H8 s8} I8 => by
        refine ⟨T.keep _ _ _ st7 fun b hb o e => (I8.pin (b, o) (List.mem_append_right _ (List.mem_append_right _ (mem_pinsAt hb e)))).1, fun b hb => ?_⟩
        obtain ⟨o, e, d⟩ := T.obj _ _ st7 b hb
        exact (I8.pin (b, o) (List.mem_append_right _ (List.mem_append_right _ (mem_pinsAt hb e)))).2.1
      refine thn (hg s3 (upd H2 s2.heap.objs.size (.lst [])) fp _ s7 σ5 H7 x u _ I7' r7 (step x H7 y7)) fun _ s8 ⟨σ8, H8, I8, q8⟩ => ?_
      refine thn (hf s3 (upd H2 s2.heap.objs.size (.lst [])) fp _ s8 σ8 H8 _ I8 q8) fun b s9 ⟨H9, I9, q9⟩ => ?_
      cases b with
      | false =>
        rw [if_neg Bool.false_ne_true] at q9 ⊢
        obtain ⟨m', hm, w9⟩ := hN _ _ _ q9
        exact ⟨m', hm, i + 1, σ8, ys, H9, I9.unpinned, (keepI I9).1, (keepI I9).2, w9⟩
      | true =>
        rw [if_pos rfl] at q9 ⊢
        refine thn (he s3 (upd H2 s2.heap.objs.size (.lst [])) fp _ s9 σ8 H9 _ I9 q9) fun e10 s10 ⟨v10, H10, I10, r10, hD10, n10⟩ => ?_
        obtain ⟨m', hm, w10⟩ := hN _ _ _ n10
        refine app_ok (X := cCx X (loc ++ fr) scope s3 (upd H2 s2.heap.objs.size (.lst [])) fp) I10 hD10 r10 hz fun _ s11 I11 => ?_
        exact ⟨m', hm, i + 1, σ8, _, _, I11.unpinned, (keepI I11).1, (keepI I11).2, w10⟩
  exact codeAny_compStart_list loop (T.self X.A 0 _ _ _ (T.keep _ _ _ st3 fun b hb o e => hk b o e) loop)
theorem after_block {scope : Scope} {N' : List Str} {fp : List Addr} {pins : List (Addr × Obj)} {σ σ5 : St} {H3 H5 : Hp} {s3 s6 : Shared} {h'' : Heap} (I3 : Inv X pins σ H3 s3) (I6 : Inv (cCx X N' scope s3 H3 fp) [] σ5 H5 s6) (f3 : ∀ b ∈ fp, FpOk X pins H3 b)
    (hs : Heap.SameBut s3.heap.objs.size s6.heap h'') : Inv X pins σ H5 { s6 with heap := h'' } := by
  have neC : ∀ b o, s3.heap.get? b = some o -> b ≠ s3.heap.objs.size := fun b o e => Nat.ne_of_lt (Heap.lt_size e)
  have un := I6.base
  refine I3.call' (s' := { s6 with heap := h'' }) (ch := fp) I6.os ⟨fun b o e n hb hx => ?_, fun b o e n hb hx => ?_, un.free, fun b o e hx => ?_, un.tups, un.frzs, un.tbls⟩ ?_ I6.bare ?_
  · exact (hs.2 b (neC b o e)).trans (un.keep b o e n hb hx)
  · obtain ⟨sl, q⟩ := un.slot b o e n hb hx
    exact ⟨sl, (hs.2 b (neC b o e)).trans q⟩
  · obtain ⟨o', q⟩ := un.there b o e hx
    exact ⟨o', (hs.2 b (neC b o e)).trans q⟩
  · intro b ob e
    have hfree : H5 s3.heap.objs.size = none := I6.free
    refine (I6.hok b ob e).stay (fun c w' hc q => (hs.2 c ?_).trans q) (fun _ q => q) fun _ _ q => q
    intro z
    rcases hc with hc | hc
    · rw [<- hc, z, hfree] at e; cases e
    · rw [z, hfree] at hc; cases hc
  · intro b hb
    obtain ⟨_, a2, _, a4, a5, a6⟩ := f3 b hb
    exact ⟨a4, a2, a5, a6⟩
theorem ps_setC {i : Nat} {y : Str} {elt tg iter : Expr} {ifs : List Expr} {scope : Scope} {pos spos py : Pos} {loc fr : List Str} {ix : List Nat} {wi : TI} {g : TG} {tf : TT} {te : TE} (hN : X.N.Nodup) (hiN : X.N[i]? = some y) (hy : X.env.scope.names.lookup y = some .local)
    (hc : X.calm = true) (S : CSc X scope fr ix) (hi : PI X tg iter wi)
    (hg : ∀ s H ex, PG (cCx X (loc ++ fr) scope s H ex) tg g) (hf : ∀ s H ex, PF (cCx X (loc ++ fr) scope s H ex) ifs tf) (he : ∀ s H ex, PE (cCx X (loc ++ fr) scope s H ex) elt te)
    (hsw : swapsWith (.ListComp elt [⟨tg, iter, ifs, 0⟩] scope pos) (some (.Name y py)) spos.line X.env = pure true := by rfl) (hs : ∀ x, foldedSetIterable iter X.env x = pure x := by intro _; rfl) :
    PS X (.Assign [.Name y py] (.ListComp elt [⟨tg, iter, ifs, 0⟩] scope pos) spos) (tAsg (tComp loc.length ix wi g tf te) (gName i)) := by
  intro pins s σ H D I h
  have hnames : ∀ y ∈ scope.names, y.2 = .local -> scope.names.lookup y.1 = some .local := fun y hy e => by
    have := List.all_eq_true.mp S.loc y hy
    rw [e] at this
    simpa using this
  rw [exec_Assign_Name_used _ _ _ _ hsw]
  refine wpAny_bind (wpAny_standAt (wpAny_bind ?_))
  show wpAny _ _ (do let _ <- comprehension (.ListComp elt [⟨tg, iter, ifs, 0⟩] scope pos) scope X.env _ (newList []) false (eval iter X.env) (some (assign (.Name y py) X.env))) _ _ s
  refine wpAny_bind (wpAny_mono (wpAny_comprehension_free (use := some (assign (.Name y py) X.env)) (Q := fun _ s' => SP X pins D .next s') rfl hs (closureFor_eq (S.clos I.ok)) S.kind hnames
    (thn (hi pins s σ H _ I h) fun v s1 h1 => thn h1 fun itv s2 h2 => ?_)) (fun _ s' hq => wpAny_pure (wpAny_pure hq)) fun _ _ e => e)
  obtain ⟨it, fp, tn, J, H2, rfl, I2, T, st2, f2, hW⟩ := h2
  refine comp_block (RR := fun acc C => compPost (model X.prog X.w) X.A X.xe (some (assign (.Name y py) X.env)) (fun _ s' => SP X pins D .next s') acc C) hc S hg hf he I2 T st2 f2 hW fun s3 s6 H5 σ5 L I3 I6 f3 q => ?_
  have J6 : Inv X pins σ H5 s6 := after_block (h'' := s6.heap) I3 I6 f3 (.refl ..)
  obtain ⟨m, hm, _⟩ := I6.loc
  have hm : s6.heap.Ns s3.heap.objs.size m := hm
  have hL : s3.heap.objs.size ≠ X.env.locals := Ne.symm (Nat.ne_of_lt I3.lt)
  show wpAny _ _ (assign (.Name y py) X.env (.ref L)) _ _ s6
  refine wpAny_assign_Name (store_ok2 (v := .ref L) J6 hN hiN (.inl hy) rfl (fun s7 I7 ⟨a, sb, ha⟩ => ?_) (.inr hy))
  have hca : s3.heap.objs.size ≠ a := by
    rcases ha with rfl | ha
    · exact hL
    · obtain ⟨v, z⟩ := I3.cell y a ha
      exact Ne.symm (Nat.ne_of_lt z.lt)
  refine ⟨m, hm.sameBut sb hca, fun h' hs' => ?_⟩
  refine ⟨_, H5, I7.turned (t' := s7.toks) (it := s3.heap.objs.size) (fun b o hb e => (hs'.2 b hb).trans e) I6.free hL (.inr I3.sz) (fun x c e z => ?_) (fun p hp z => ?_), q⟩
  · obtain ⟨v, w⟩ := I3.cell x c e
    exact absurd w.lt (by rw [z]; exact Nat.lt_irrefl _)
  · exact absurd (Heap.lt_size (I3.pin p hp).1) (by rw [z]; exact Nat.lt_irrefl _)
end
end L2
namespace L2
open PySem PySem.Spec PyProof.Rows
section
variable (K : PySem.W.Frag) {X : Cx}
theorem ix_listK (hK : X.K = K := by rfl) : IxR X (rIxL K) := by subst hK; exact ix_list
theorem ix_tupK (hK : X.K = K := by rfl) : IxR X (rIxT K) := by subst hK; exact ix_tup
theorem sl_listK (hK : X.K = K := by rfl) : SlR X (rSlL K) := by subst hK; exact sl_list
theorem op_notInK (hK : X.K = K := by rfl) : OpR X (compareOp .NotIn) (rIn K true) := by subst hK; exact op_notIn_seq
theorem op_eqDK (hu : X.A.units + 64 < cLine) (hK : X.K = K := by rfl) : OpR X (compareOp .Eq) (rEqD K) := by subst hK; exact op_eqD hu
theorem op_neDK (hu : X.A.units + 64 < cLine) (hK : X.K = K := by rfl) : OpR X (compareOp .NotEq) (rNeD K) := by subst hK; exact op_neD hu
theorem op_catTK (hK : X.K = K := by rfl) : OpR X (binaryOp .Add) (rCatT K) := by subst hK; exact op_catT
def rLen : List V -> Hp -> VK -> Prop := fun xs H Q => ∃ p ys, xs = [.ref p] /\ (SqL K H p ys ∨ SqT K H p ys) /\ Q (.int ys.length) H
theorem call_lenK (hK : X.K = K := by rfl) : CallR X (.builtin "len") (rLen K) := by subst hK; exact call_len_seq
def rListOf : List V -> Hp -> VK -> Prop := fun xs H Q => ∃ p ys, xs = [.ref p] /\ (SqL K H p ys ∨ SqT K H p ys) /\ ∀ l, H l = none -> Q (.ref l) (upd H l (.lst ys))
theorem call_listK (hK : X.K = K := by rfl) : CallR X (.type "list") (rListOf K) := by subst hK; exact call_list_of
def rTupleOf : List V -> Hp -> VK -> Prop := fun xs H Q => ∃ p ys, xs = [.ref p] /\ ((SqL K H p ys /\ ∀ l, H l = none -> Q (.ref l) (upd H l (.tup ys))) ∨ (SqT K H p ys /\ Q (.ref p) H))
theorem call_tupleK (hK : X.K = K := by rfl) : CallR X (.type "tuple") (rTupleOf K) := by subst hK; exact call_tuple_of
def rSumL : List V -> Hp -> VK -> Prop := fun xs H Q => ∃ (a : Addr) (ns : List Int), xs = [.ref a] /\ SqL K H a (ns.map V.int) /\ Q (.int ns.sum) H
theorem call_sumK (hc : X.calm = true) (hK : X.K = K := by rfl) : CallR X (.builtin "sum") (rSumL K) := by subst hK; exact call_sumL hc
theorem pi_listK {tg l : Expr} {tl : TE} (hl : PE X l tl) (hK : X.K = K := by rfl) : PI X tg l (iList K tl) := by subst hK; exact pi_list hl
theorem pi_tupK {tg l : Expr} {tl : TE} (hl : PE X l tl) (hK : X.K = K := by rfl) : PI X tg l (iTup K tl) := by subst hK; exact pi_tup hl
theorem pg_tupK {pos : Pos} {es : List Expr} {k : Nat} {t : TGs} {n : Nat} (hc : X.calm = true) (h : PGs X es t) (hK : X.K = K := by rfl)
    (hn : (assignEach es X.env).length = n := by rfl) (hst : (assignEach es X.env).findIdx? (·.1) = none := by rfl) : PG X (.Tuple es k pos) (gTup K n t) := by
  subst hK
  exact pg_tup hc h hn hst
end
section
variable (K : PySem.W.Frag) {X : Cx}
end
end L2
namespace L2
open PySem PySem.Spec PyProof.Rows
section
variable (K : PySem.W.Frag) {X : Cx}
theorem bools_get : ∀ {bs : List Bool} {us : List Value} {i : Nat} {v : Value}, Vals (bs.map V.bl) us -> us[i]? = some v -> ∃ b, bs[i]? = some b /\ v = .bool b
  | [], _, _, _, .nil, e => by simp at e
  | b :: bs, _, 0, _, .cons r _, e => by simp at e; subst e; exact ⟨b, rfl, r⟩
  | b :: bs, _, i + 1, _, .cons _ t, e => by
    obtain ⟨c, h1, h2⟩ := bools_get (i := i) t (by simpa using e)
    exact ⟨c, by simpa using h1, h2⟩
def rAll : List V -> Hp -> VK -> Prop := fun xs H Q => ∃ (a : Addr) (bs : List Bool), xs = [.ref a] /\ SqL K H a (bs.map V.bl) /\ Q (.bl (bs.all id)) H
def rAny : List V -> Hp -> VK -> Prop := fun xs H Q => ∃ (a : Addr) (bs : List Bool), xs = [.ref a] /\ SqL K H a (bs.map V.bl) /\ Q (.bl (bs.any id)) H
theorem call_allK (hc : X.calm = true) (hK : X.K = K := by rfl) : CallR X (.builtin "all") (rAll K) := by
  subst hK
  intro pins s σ H xs us Q I r h
  obtain ⟨a, bs, rfl, hq, q⟩ := h
  obtain ⟨u, rfl, ru⟩ := vals1 r
  cases ru
  obtain ⟨its, rv, p, hz⟩ := I.list hq
  have hl := p.isList
  have hlen := rv.length
  have hlt : a < s.heap.objs.size := by obtain ⟨_, e, _⟩ := hl; exact Heap.lt_size e
  refine call_all_walk (wpAny_pyIter_list hl ?_)
  refine ⟨s.heap.objs.size, [s.heap.objs.size, a], [s.heap.objs.size], its.toArray.size, _, _, fun i => (bs[i]?).getD true, rfl, Walks.list (A := X.A.in1) (I.ok.hd hc) _ a (Nat.ne_of_lt hlt) its.toArray,
    ⟨⟨_, Heap.get?_push_size _ rfl, rfl, rfl⟩, hl.push _⟩, fun i v s' Q' E' hP hQ => ?_, fun h' tk hk => ?_⟩
  · obtain ⟨b, e, rfl⟩ := bools_get rv (by simpa using hP)
    simp only [e, Option.getD_some] at hQ
    exact wpAny_truthy_bool hQ
  · have e : ((List.range its.toArray.size).all fun i => (bs[i]?).getD true) = bs.all id := by
      rw [List.size_toArray, <- hlen, List.length_map]; exact LSm.range_all bs
    rw [e]
    exact ⟨.bl _, H, I.kept (LSm.kept_iter hk), rfl, q⟩
theorem call_anyK (hc : X.calm = true) (hK : X.K = K := by rfl) : CallR X (.builtin "any") (rAny K) := by
  subst hK
  intro pins s σ H xs us Q I r h
  obtain ⟨a, bs, rfl, hq, q⟩ := h
  obtain ⟨u, rfl, ru⟩ := vals1 r
  cases ru
  obtain ⟨its, rv, p, hz⟩ := I.list hq
  have hl := p.isList
  have hlen := rv.length
  have hlt : a < s.heap.objs.size := by obtain ⟨_, e, _⟩ := hl; exact Heap.lt_size e
  refine call_any_walk (wpAny_pyIter_list hl ?_)
  refine ⟨s.heap.objs.size, [s.heap.objs.size, a], [s.heap.objs.size], its.toArray.size, _, _, fun i => (bs[i]?).getD false, rfl, Walks.list (A := X.A.in1) (I.ok.hd hc) _ a (Nat.ne_of_lt hlt) its.toArray,
    ⟨⟨_, Heap.get?_push_size _ rfl, rfl, rfl⟩, hl.push _⟩, fun i v s' Q' E' hP hQ => ?_, fun h' tk hk => ?_⟩
  · obtain ⟨b, e, rfl⟩ := bools_get rv (by simpa using hP)
    simp only [e, Option.getD_some] at hQ
    exact wpAny_truthy_bool hQ
  · have e : ((List.range its.toArray.size).any fun i => (bs[i]?).getD false) = bs.any id := by
      rw [List.size_toArray, <- hlen, List.length_map]; exact LSm.range_any bs
    rw [e]
    exact ⟨.bl _, H, I.kept (LSm.kept_iter hk), rfl, q⟩
theorem vals_of : ∀ {ns : List Int} {us : List Value}, IntsAre us ns -> Vals (ns.map V.int) us
  | [], _, .nil => .nil
  | _ :: _, _, .cons _ _ t => .cons ⟨_, rfl⟩ (vals_of t)
def rMaxL : List V -> Hp -> VK -> Prop := fun xs H Q => ∃ (a : Addr) (ns : List Int), xs = [.ref a] /\ SqL K H a (ns.map V.int) /\ 0 < ns.length /\ ∀ M : Int, M ∈ ns -> (∀ x ∈ ns, x <= M) -> Q (.int M) H
theorem call_maxK (hc : X.calm = true) (hK : X.K = K := by rfl) : CallR X (.builtin "max") (rMaxL K) := by
  subst hK
  intro pins s σ H xs us Q I r h
  obtain ⟨a, ns, rfl, hq, hne, q⟩ := h
  obtain ⟨u, rfl, ru⟩ := vals1 r
  cases ru
  obtain ⟨its, rv, p, hz⟩ := I.list hq
  have hi := ints_of rv
  obtain ⟨ys, e⟩ := hi.allInts.items
  have hns : ns = ys.toList.map (·.1) := by
    rw [<- hi.numsOf, <- nums_intItems, <- e]
  have hsz : 0 < ys.size := by
    have h3 := hne; rw [hns, List.length_map, Array.length_toList] at h3; exact h3
  have hl := p.isList
  rw [e] at hl
  refine max_intList (I.ok.hd hc) hl hsz fun v h' tk hv hk => ?_
  obtain ⟨t, rfl⟩ := intItems_at hv
  obtain ⟨h1, h2⟩ := argBest_gt (numAt ys) (ys.size - 1)
  refine ⟨.int _, H, I.kept hk, ⟨t, rfl⟩, q _ ?_ fun x hx => ?_⟩
  · rw [hns, numAt_eq]; exact getD_mem (by rw [List.length_map, Array.length_toList]; omega)
  · rw [hns] at hx
    obtain ⟨j, hj, rfl⟩ := mem_getD hx
    rw [List.length_map, Array.length_toList] at hj
    rw [<- numAt_eq]; exact h2 j (by omega)
def rMinL : List V -> Hp -> VK -> Prop := fun xs H Q => ∃ (a : Addr) (ns : List Int), xs = [.ref a] /\ SqL K H a (ns.map V.int) /\ 0 < ns.length /\ ∀ M : Int, M ∈ ns -> (∀ x ∈ ns, M <= x) -> Q (.int M) H
theorem call_minK (hc : X.calm = true) (hK : X.K = K := by rfl) : CallR X (.builtin "min") (rMinL K) := by
  subst hK
  intro pins s σ H xs us Q I r h
  obtain ⟨a, ns, rfl, hq, hne, q⟩ := h
  obtain ⟨u, rfl, ru⟩ := vals1 r
  cases ru
  obtain ⟨its, rv, p, hz⟩ := I.list hq
  have hi := ints_of rv
  obtain ⟨ys, e⟩ := hi.allInts.items
  have hns : ns = ys.toList.map (·.1) := by
    rw [<- hi.numsOf, <- nums_intItems, <- e]
  have hsz : 0 < ys.size := by
    have h3 := hne; rw [hns, List.length_map, Array.length_toList] at h3; exact h3
  have hl := p.isList
  rw [e] at hl
  refine min_intList (I.ok.hd hc) hl hsz fun v h' tk hv hk => ?_
  obtain ⟨t, rfl⟩ := intItems_at hv
  obtain ⟨h1, h2⟩ := argBest_lt (numAt ys) (ys.size - 1)
  refine ⟨.int _, H, I.kept hk, ⟨t, rfl⟩, q _ ?_ fun x hx => ?_⟩
  · rw [hns, numAt_eq]; exact getD_mem (by rw [List.length_map, Array.length_toList]; omega)
  · rw [hns] at hx
    obtain ⟨j, hj, rfl⟩ := mem_getD hx
    rw [List.length_map, Array.length_toList] at hj
    rw [<- numAt_eq]; exact h2 j (by omega)
end
end L2
namespace L2
open PySem PySem.Spec PyProof.Rows
section
variable {prog : Program} {w : World} {A : Around} {E : Value -> Shared -> Prop} {s : Shared} {l : Addr} {xs : Array (Int × Tok)}
theorem iter_intTuple {Q : Value -> Shared -> Prop} (hl : s.heap.IsTuple l (intItems xs))
    (h : ∀ s₂ : Shared, s₂ = { s with heap := s.heap.push { cls := .type "tuple_iterator", data := .fields #[.ref l, .int 0 0] } } ->
      (s₂.heap.IsTupleIter s.heap.objs.size l 0 /\ s₂.heap.IsTuple l (intItems xs)) -> (∀ b ∈ [s.heap.objs.size, l], b < s₂.heap.objs.size) -> l ≠ s.heap.objs.size -> Q (.ref s.heap.objs.size) s₂) :
    wpAny (model prog w) A (pyIter (.ref l)) Q E s := by
  have hlt : l < s.heap.objs.size := by obtain ⟨_, e, _⟩ := hl; exact Heap.lt_size e
  refine wpAny_pyIter_tuple hl (h _ rfl ⟨⟨_, Heap.get?_push_size _ rfl, rfl, rfl⟩, hl.push _⟩ (fun b hb => ?_) (Nat.ne_of_lt hlt))
  show b < (s.heap.push _).objs.size
  rw [Heap.size_push]
  rcases List.mem_cons.mp hb with rfl | hb
  · exact Nat.lt_succ_self _
  · rcases List.mem_cons.mp hb with rfl | hb
    · exact Nat.lt_succ_of_lt hlt
    · cases hb
theorem old_keptT {h' : Heap} {o : Obj} (hk : ∀ b x, b ∉ [s.heap.objs.size] -> (s.heap.push o).get? b = some x -> h'.get? b = some x) : ∀ b x, s.heap.get? b = some x -> h'.get? b = some x :=
  fun b x e => hk b x (fun hm => by rw [List.mem_singleton.mp hm] at e; exact Nat.lt_irrefl _ (Heap.lt_size e)) (Heap.get?_push_of_some _ e)
theorem sum_intTuple {Q : Value -> Shared -> Prop} (hh : A.handled = none) (hl : s.heap.IsTuple l (intItems xs))
    (h : ∀ h' tk t', (∀ b o, s.heap.get? b = some o -> h'.get? b = some o) -> Q (.int (preSum (numAt xs) xs.size) t') { s with heap := h', toks := tk }) :
    wpAny (model prog w) A (call (.builtin "sum") [.ref l]) Q E s := by
  refine call_sum_walkG (iter_intTuple hl fun s₂ e st hfp hlI => ?_)
  subst e
  refine ⟨_, _, _, _, _, _, numAt xs, rfl, Walks.tuple (A := A.in1) hh _ l hlI (intItems xs), st, hfp, (fun _ _ => intItems_at), fun h' tk t' hk => ?_⟩
  have := h h' tk t' (old_keptT hk)
  simpa [intItems] using this
theorem max_intTuple {Q : Value -> Shared -> Prop} (hh : A.handled = none) (hl : s.heap.IsTuple l (intItems xs)) (hne : 0 < xs.size)
    (h : ∀ v h' tk, (intItems xs)[argBest (fun i j => decide (numAt xs i > numAt xs j)) (xs.size - 1)]? = some v -> (∀ b o, s.heap.get? b = some o -> h'.get? b = some o) -> Q v { s with heap := h', toks := tk }) :
    wpAny (model prog w) A (call (.builtin "max") [.ref l]) Q E s := by
  refine call_max_walk (iter_intTuple hl fun s₂ e st hfp hlI => ?_)
  subst e
  refine ⟨_, _, _, _, _, _, _, rfl, Walks.tuple (A := A.in1) hh _ l hlI (intItems xs), st, hfp, by simpa [intItems] using hne, CmpOf.ints_gt (numAt xs) (fun _ _ => intItems_at), fun v h' tk hP hk => ?_⟩
  exact h v h' tk (by simpa [intItems] using hP) (old_keptT hk)
end
section
variable (K : PySem.W.Frag) {X : Cx}
def rSumT : List V -> Hp -> VK -> Prop := fun xs H Q => ∃ (a : Addr) (ns : List Int), xs = [.ref a] /\ SqT K H a (ns.map V.int) /\ Q (.int ns.sum) H
theorem call_sumTK (hc : X.calm = true) (hK : X.K = K := by rfl) : CallR X (.builtin "sum") (rSumT K) := by
  subst hK
  intro pins s σ H xs us Q I r h
  obtain ⟨a, ns, rfl, hq, q⟩ := h
  obtain ⟨u, rfl, ru⟩ := vals1 r
  cases ru
  obtain ⟨its, rv, p, hz⟩ := I.tuple hq
  have hi := ints_of rv
  obtain ⟨xs, hx⟩ := hi.allInts.items
  have hl' : s.heap.IsTuple a (intItems xs) := hx ▸ (show s.heap.IsTuple a its.toArray from p)
  refine sum_intTuple (I.ok.hd hc) hl' fun h' tk t' hk => ?_
  have e1 : ns = xs.toList.map (·.1) := by
    rw [<- nums_intItems, <- hx]
    exact (show numsOf its.toArray.toList = ns from hi.numsOf).symm
  have e2 : preSum (numAt xs) xs.size = ns.sum := by
    rw [preSum_eq, List.take_of_length_le (by simp), e1]
  rw [e2]
  exact ⟨.int ns.sum, H, I.kept hk, ⟨_, rfl⟩, q⟩
def rMaxT : List V -> Hp -> VK -> Prop := fun xs H Q => ∃ (a : Addr) (ns : List Int), xs = [.ref a] /\ SqT K H a (ns.map V.int) /\ 0 < ns.length /\ ∀ M : Int, M ∈ ns -> (∀ x ∈ ns, x <= M) -> Q (.int M) H
theorem call_maxTK (hc : X.calm = true) (hK : X.K = K := by rfl) : CallR X (.builtin "max") (rMaxT K) := by
  subst hK
  intro pins s σ H xs us Q I r h
  obtain ⟨a, ns, rfl, hq, hne, q⟩ := h
  obtain ⟨u, rfl, ru⟩ := vals1 r
  cases ru
  obtain ⟨its, rv, p, hz⟩ := I.tuple hq
  have hi := ints_of rv
  obtain ⟨ys, e⟩ := hi.allInts.items
  have hns : ns = ys.toList.map (·.1) := by
    rw [<- hi.numsOf, <- nums_intItems, <- e]
  have hsz : 0 < ys.size := by
    have h3 := hne; rw [hns, List.length_map, Array.length_toList] at h3; exact h3
  have hl : s.heap.IsTuple a (intItems ys) := e ▸ (show s.heap.IsTuple a its.toArray from p)
  refine max_intTuple (I.ok.hd hc) hl hsz fun v h' tk hv hk => ?_
  obtain ⟨t, rfl⟩ := intItems_at hv
  obtain ⟨h1, h2⟩ := argBest_gt (numAt ys) (ys.size - 1)
  refine ⟨.int _, H, I.kept hk, ⟨t, rfl⟩, q _ ?_ fun x hx => ?_⟩
  · rw [hns, numAt_eq]; exact getD_mem (by rw [List.length_map, Array.length_toList]; omega)
  · rw [hns] at hx
    obtain ⟨j, hj, rfl⟩ := mem_getD hx
    rw [List.length_map, Array.length_toList] at hj
    rw [<- numAt_eq]; exact h2 j (by omega)
end
end L2
namespace L2
open PySem PySem.Spec PyProof.Rows
inductive I where
  | non | bl (b : Bool) | int (i : Int) | str (x : Str) | tup (ds : List I)
inductive D where
  | im (i : I) | mu (n : Nat) | tm (ds : List D) | ro (ns : List Int)
inductive MO where
  | lst (ds : List D) | dic (kvs : List (Key × D))
abbrev Hd := List MO
abbrev Ls := List (Option D)
def RoL (K : PySem.W.Frag) (H : Hp) (a : Addr) (xs : List V) : Prop := (∃ o, H a = some (.frz o (.lst xs))) ∨
  ∃ (o : Obj) (its : Array Value) (n : Nat), K.lookup a = some o /\ o.cls = .type "list" /\ o.dict = none /\ o.data = .seq its n /\ its.size <= sizeLine /\ Vals xs its.toList
theorem RoL.sq {K : PySem.W.Frag} {H : Hp} {a : Addr} {xs : List V} (h : RoL K H a xs) : SqL K H a xs := by
  rcases h with ⟨o, h⟩ | h
  · exact .inl (.inr ⟨o, h⟩)
  · exact .inr h
theorem RoL.grow {K : PySem.W.Frag} {H H' : Hp} {a : Addr} {xs : List V} (g : Grow H H') (h : RoL K H a xs) : RoL K H' a xs := by
  rcases h with ⟨o, h⟩ | h
  · exact .inl ⟨o, g.frz _ _ _ h⟩
  · exact .inr h
def fits (n : Nat) : Prop := n <= sizeLine
def fitsL (n : Nat) : Prop := n < sizeLine
def mulOk (i j : Int) : Prop := (-(2 ^ 64) < i /\ i < 2 ^ 64) ∨ (-(2 ^ 64) < j /\ j < 2 ^ 64)
def powOk (i j : Int) : Prop := 0 <= j /\ j <= 1000000 /\ i.natAbs < 2 ^ 64
def divOk (j : Int) : Prop := 0 < j /\ j < 1073741824
def modOk (j : Int) : Prop := 0 < j
def rng1 (j : Int) : Prop := -(2 ^ 62) <= j /\ j < 2 ^ 62
def rng2 (i j : Int) : Prop := (-(2 ^ 62) <= i /\ i < 2 ^ 62) /\ -(2 ^ 62) <= j /\ j < 2 ^ 62
def rngL1 (j : Int) : Prop := j < 2 ^ 24 /\ -(2 ^ 62) <= j
def rngL2 (i j : Int) : Prop := (-(2 ^ 62) <= i /\ i < 2 ^ 62) /\ (-(2 ^ 62) <= j /\ j < 2 ^ 62) /\ (j - i).toNat <= 2 ^ 24
theorem fits_of {n : Nat} (h : n <= 1000000) : fits n := Nat.le_trans h (by rw [sizeLine_eq]; decide)
theorem fitsL_of {n : Nat} (h : n < 1000000) : fitsL n := Nat.lt_of_lt_of_le h (by rw [sizeLine_eq]; decide)
theorem mulOk_l {i j : Int} (a : -1000000000000 <= i) (b : i <= 1000000000000) : mulOk i j := .inl ⟨by omega, by omega⟩
theorem rng1_of {j : Int} (a : -1000000000000 <= j) (b : j <= 1000000000000) : rng1 j := ⟨by omega, by omega⟩
theorem rngL1_of {j : Int} (a : -1000000000000 <= j) (b : j <= 1000000) : rngL1 j := ⟨by omega, by omega⟩
section
variable (K : PySem.W.Frag)
mutual
def RI (H : Hp) : I -> V -> Prop
  | .non, v => v = .non
  | .bl b, v => v = .bl b
  | .int i, v => v = .int i
  | .str x, v => v = .str x
  | .tup ds, v => ∃ a xs, v = .ref a /\ SqT K H a xs /\ RIs H ds xs
def RIs (H : Hp) : List I -> List V -> Prop
  | [], xs => xs = []
  | d :: ds, xs => ∃ x r, xs = x :: r /\ RI H d x /\ RIs H ds r
end
mutual
def RD (ρ : List Addr) (H : Hp) : D -> V -> Prop
  | .im i, v => RI K H i v
  | .mu n, v => ∃ a, ρ[n]? = some a /\ v = .ref a
  | .tm ds, v => ∃ a xs, v = .ref a /\ SqT K H a xs /\ RDs ρ H ds xs
  | .ro ns, v => ∃ a, v = .ref a /\ RoL K H a (ns.map V.int)
def RDs (ρ : List Addr) (H : Hp) : List D -> List V -> Prop
  | [], xs => xs = []
  | d :: ds, xs => ∃ x r, xs = x :: r /\ RD ρ H d x /\ RDs ρ H ds r
end
def RKs (ρ : List Addr) (H : Hp) : List (Key × D) -> List (Key × V) -> Prop
  | [], xs => xs = []
  | d :: ds, xs => ∃ x r, xs = x :: r /\ x.1 = d.1 /\ RD K ρ H d.2 x.2 /\ RKs ρ H ds r
def RC (ρ : List Addr) (H : Hp) : MO -> HO -> Prop
  | .lst ds, o => ∃ xs, o = .lst xs /\ RDs K ρ H ds xs
  | .dic kvs, o => ∃ kv, o = .dK kv /\ RKs K ρ H kvs kv
structure RH (ρ : List Addr) (H : Hp) (hd : Hd) : Prop where
  len : ρ.length = hd.length
  nd : ρ.Nodup
  ob : ∀ (n : Nat) (o : MO) (a : Addr), hd[n]? = some o -> ρ[n]? = some a -> ∃ ho, H a = some ho /\ RC K ρ H o ho
structure RL (ρ : List Addr) (H : Hp) (ls : Ls) (σ : St) : Prop where
  len : ls.length = σ.length
  ob : ∀ (i : Nat) (d : D), ls[i]? = some (some d) -> ∃ v, σ[i]? = some (some v) /\ RD K ρ H d v
end
structure Ext (ρ : List Addr) (H : Hp) (ρ' : List Addr) (H' : Hp) : Prop where
  pre : ∃ r, ρ' = ρ ++ r /\ ∀ b ∈ r, H b = none
  keep : ∀ b o, H b = some o -> b ∉ ρ -> H' b = some o
section
variable {K : PySem.W.Frag} {ρ ρ' ρ1 ρ2 : List Addr} {H H' H1 H2 : Hp} {hd hd' hd1 : Hd}
mutual
theorem RI.grow (g : Grow H H') : ∀ {i : I} {v : V}, RI K H i v -> RI K H' i v
  | .non, v, h => by simpa only [RI] using h
  | .bl b, v, h => by simpa only [RI] using h
  | .int b, v, h => by simpa only [RI] using h
  | .str b, v, h => by simpa only [RI] using h
  | .tup ds, v, h => by
    simp only [RI] at h ⊢
    obtain ⟨a, xs, e, q, r⟩ := h
    exact ⟨a, xs, e, g.sq q, RIs.grow g r⟩
theorem RIs.grow (g : Grow H H') : ∀ {i : List I} {v : List V}, RIs K H i v -> RIs K H' i v
  | [], v, h => by simpa only [RIs] using h
  | d :: ds, v, h => by
    simp only [RIs] at h ⊢
    obtain ⟨x, r, e, q, z⟩ := h
    exact ⟨x, r, e, q.grow g, RIs.grow g z⟩
end
theorem RH.mut (h : RH K ρ H hd) {a : Addr} (m : a ∈ ρ) : (∃ xs, H a = some (.lst xs)) ∨ ∃ kv, H a = some (.dK kv) := by
  obtain ⟨n, e⟩ := List.mem_iff_getElem?.mp m
  have hn : n < hd.length := by rw [<- h.len]; exact (List.getElem?_eq_some_iff.mp e).1
  obtain ⟨ho, e1, e2⟩ := h.ob n hd[n] a (by simp [hn]) e
  cases q : hd[n] with
  | lst ds => rw [q] at e2; obtain ⟨xs, rfl, _⟩ := e2; exact .inl ⟨xs, e1⟩
  | dic ds => rw [q] at e2; obtain ⟨xs, rfl, _⟩ := e2; exact .inr ⟨xs, e1⟩
theorem RH.tup_out (h : RH K ρ H hd) {a : Addr} {xs : List V} (e : H a = some (.tup xs)) : a ∉ ρ := fun m => by
  rcases h.mut m with ⟨y, z⟩ | ⟨y, z⟩ <;> (rw [e] at z; cases z)
theorem RH.frz_out (h : RH K ρ H hd) {a : Addr} {o : Obj} {u : HO} (e : H a = some (.frz o u)) : a ∉ ρ := fun m => by
  rcases h.mut m with ⟨y, z⟩ | ⟨y, z⟩ <;> (rw [e] at z; cases z)
theorem Ext.grow (e : Ext ρ H ρ' H') (h : RH K ρ H hd) : Grow H H' := ⟨fun b xs q => e.keep b _ q (h.tup_out q), fun b o u q => e.keep b _ q (h.frz_out q)⟩
theorem Ext.refl : Ext ρ H ρ H := ⟨⟨[], by simp, by simp⟩, fun _ _ h _ => h⟩
theorem Ext.trans (e : Ext ρ H ρ1 H1) (h0 : RH K ρ1 H1 hd1) (e2 : Ext ρ1 H1 ρ2 H2) : Ext ρ H ρ2 H2 := by
  obtain ⟨r1, rfl, f1⟩ := e.pre
  obtain ⟨r2, rfl, f2⟩ := e2.pre
  refine ⟨⟨r1 ++ r2, by simp, fun b m => ?_⟩, fun b o q n => ?_⟩
  · rcases List.mem_append.mp m with m | m
    · exact f1 b m
    · have z := f2 b m
      cases q : H b with
      | none => rfl
      | some o =>
        by_cases n : b ∈ ρ
        · rcases h0.mut (List.mem_append_left r1 n) with ⟨y, w⟩ | ⟨y, w⟩ <;> (rw [z] at w; cases w)
        · have := e.keep b o q n
          rw [z] at this; cases this
  · refine e2.keep b o (e.keep b o q n) fun m => ?_
    rcases List.mem_append.mp m with m | m
    · exact n m
    · have := f1 b m; rw [q] at this; cases this
mutual
theorem RD.mono (g : Grow H H') (r : List Addr) : ∀ {d : D} {v : V}, RD K ρ H d v -> RD K (ρ ++ r) H' d v
  | .im i, v, h => by simp only [RD] at h ⊢; exact h.grow g
  | .mu n, v, h => by
    simp only [RD] at h ⊢
    obtain ⟨a, e, q⟩ := h
    exact ⟨a, by rw [List.getElem?_append_left (List.getElem?_eq_some_iff.mp e).1]; exact e, q⟩
  | .tm ds, v, h => by
    simp only [RD] at h ⊢
    obtain ⟨a, xs, e, q, z⟩ := h
    exact ⟨a, xs, e, g.sq q, RDs.mono g r z⟩
  | .ro ns, v, h => by
    simp only [RD] at h ⊢
    obtain ⟨a, e, q⟩ := h
    exact ⟨a, e, q.grow g⟩
theorem RDs.mono (g : Grow H H') (r : List Addr) : ∀ {d : List D} {v : List V}, RDs K ρ H d v -> RDs K (ρ ++ r) H' d v
  | [], v, h => by simpa only [RDs] using h
  | d :: ds, v, h => by
    simp only [RDs] at h ⊢
    obtain ⟨x, r', e, q, z⟩ := h
    exact ⟨x, r', e, q.mono g r, RDs.mono g r z⟩
end
theorem RKs.mono (g : Grow H H') (r : List Addr) : ∀ {d : List (Key × D)} {v : List (Key × V)}, RKs K ρ H d v -> RKs K (ρ ++ r) H' d v
  | [], v, h => by simpa only [RKs] using h
  | d :: ds, v, h => by
    simp only [RKs] at h ⊢
    obtain ⟨x, r', e, q1, q, z⟩ := h
    exact ⟨x, r', e, q1, q.mono g r, RKs.mono g r z⟩
theorem RC.mono (g : Grow H H') (r : List Addr) {o : MO} {ho : HO} (h : RC K ρ H o ho) : RC K (ρ ++ r) H' o ho := by
  cases o with
  | lst ds => obtain ⟨xs, e, q⟩ := h; exact ⟨xs, e, q.mono g r⟩
  | dic ds => obtain ⟨xs, e, q⟩ := h; exact ⟨xs, e, q.mono g r⟩
theorem RD.ext (h : RH K ρ H hd) (e : Ext ρ H ρ' H') {d : D} {v : V} (q : RD K ρ H d v) : RD K ρ' H' d v := by
  obtain ⟨r, rfl, _⟩ := e.pre
  exact q.mono (e.grow h) r
theorem RDs.ext (h : RH K ρ H hd) (e : Ext ρ H ρ' H') {d : List D} {v : List V} (q : RDs K ρ H d v) : RDs K ρ' H' d v := by
  obtain ⟨r, rfl, _⟩ := e.pre
  exact q.mono (e.grow h) r
theorem RL.ext (h : RH K ρ H hd) (e : Ext ρ H ρ' H') {ls : Ls} {σ : St} (q : RL K ρ H ls σ) : RL K ρ' H' ls σ :=
  ⟨q.len, fun i d z => let ⟨v, a, b⟩ := q.ob i d z; ⟨v, a, b.ext h e⟩⟩
theorem RDs.len : ∀ {ds : List D} {xs : List V}, RDs K ρ H ds xs -> xs.length = ds.length
  | [], xs, h => by simp only [RDs] at h; rw [h]; rfl
  | d :: ds, xs, h => by
    simp only [RDs] at h
    obtain ⟨x, r, rfl, _, z⟩ := h
    simp [RDs.len z]
theorem RDs.get : ∀ {ds : List D} {xs : List V} {i : Nat} {d : D}, RDs K ρ H ds xs -> ds[i]? = some d -> ∃ x, xs[i]? = some x /\ RD K ρ H d x
  | [], xs, i, d, h, e => by simp at e
  | d :: ds, xs, 0, e, h, q => by
    simp only [RDs] at h
    obtain ⟨x, r, rfl, z, _⟩ := h
    simp at q; subst q
    exact ⟨x, rfl, z⟩
  | d :: ds, xs, i + 1, e, h, q => by
    simp only [RDs] at h
    obtain ⟨x, r, rfl, _, z⟩ := h
    obtain ⟨y, a, b⟩ := RDs.get (i := i) z (by simpa using q)
    exact ⟨y, by simpa using a, b⟩
theorem RDs.nil : RDs K ρ H [] [] := by simp [RDs]
theorem RDs.cons {d : D} {v : V} {ds : List D} {vs : List V} (h : RD K ρ H d v) (t : RDs K ρ H ds vs) : RDs K ρ H (d :: ds) (v :: vs) := by
  simp only [RDs]; exact ⟨v, vs, rfl, h, t⟩
theorem RDs.app : ∀ {ds es : List D} {xs ys : List V}, RDs K ρ H ds xs -> RDs K ρ H es ys -> RDs K ρ H (ds ++ es) (xs ++ ys)
  | [], es, xs, ys, h, t => by simp only [RDs] at h; subst h; simpa using t
  | d :: ds, es, xs, ys, h, t => by
    simp only [RDs] at h
    obtain ⟨x, r, rfl, z, q⟩ := h
    simp only [List.cons_append]
    exact .cons z (q.app t)
theorem RDs.set : ∀ {ds : List D} {xs : List V} {d : D} {v : V} (i : Nat), RDs K ρ H ds xs -> RD K ρ H d v -> RDs K ρ H (ds.set i d) (xs.set i v)
  | [], xs, d, v, i, h, t => by simp only [RDs] at h; subst h; simp [RDs]
  | d :: ds, xs, e, v, 0, h, t => by
    simp only [RDs] at h
    obtain ⟨x, r, rfl, z, q⟩ := h
    simpa using RDs.cons t q
  | d :: ds, xs, e, v, i + 1, h, t => by
    simp only [RDs] at h
    obtain ⟨x, r, rfl, z, q⟩ := h
    simpa using RDs.cons z (q.set i t)
theorem RDs.drop : ∀ {ds : List D} {xs : List V} (n : Nat), RDs K ρ H ds xs -> RDs K ρ H (ds.drop n) (xs.drop n)
  | ds, xs, 0, h => by simpa using h
  | [], xs, n + 1, h => by simp only [RDs] at h; subst h; simp [RDs]
  | d :: ds, xs, n + 1, h => by
    simp only [RDs] at h
    obtain ⟨x, r, rfl, z, q⟩ := h
    simpa using q.drop n
theorem RDs.take : ∀ {ds : List D} {xs : List V} (n : Nat), RDs K ρ H ds xs -> RDs K ρ H (ds.take n) (xs.take n)
  | ds, xs, 0, h => by simp [RDs]
  | [], xs, n + 1, h => by simp only [RDs] at h; subst h; simp [RDs]
  | d :: ds, xs, n + 1, h => by
    simp only [RDs] at h
    obtain ⟨x, r, rfl, z, q⟩ := h
    simpa using RDs.cons z (q.take n)
theorem RIs.ds : ∀ {is : List I} {xs : List V}, RIs K H is xs -> RDs K ρ H (is.map D.im) xs
  | [], xs, h => by simpa only [RIs, RDs, List.map_nil] using h
  | i :: is, xs, h => by
    simp only [RIs] at h
    obtain ⟨x, r, rfl, z, q⟩ := h
    exact .cons (by simpa only [RD] using z) q.ds
theorem RDs.is : ∀ {is : List I} {xs : List V}, RDs K ρ H (is.map D.im) xs -> RIs K H is xs
  | [], xs, h => by simpa only [RIs, RDs, List.map_nil] using h
  | i :: is, xs, h => by
    simp only [List.map_cons, RDs] at h
    obtain ⟨x, r, rfl, z, q⟩ := h
    simp only [RIs]
    exact ⟨x, r, rfl, by simpa only [RD] using z, q.is⟩
theorem RH.new (h : RH K ρ H hd) {a : Addr} (ha : H a = none) {o : MO} {ho : HO} (c : RC K ρ H o ho) : RH K (ρ ++ [a]) (upd H a ho) (hd ++ [o]) /\ Ext ρ H (ρ ++ [a]) (upd H a ho) := by
  have out : a ∉ ρ := fun m => by rcases h.mut m with ⟨y, z⟩ | ⟨y, z⟩ <;> (rw [ha] at z; cases z)
  have ex : Ext ρ H (ρ ++ [a]) (upd H a ho) := ⟨⟨[a], rfl, fun b m => by simp at m; subst m; exact ha⟩, fun b o q n => by rw [upd_ne (ne_of_none q ha)]; exact q⟩
  refine ⟨⟨by simp [h.len], ?_, fun n o' b e1 e2 => ?_⟩, ex⟩
  · rw [List.nodup_append]
    refine ⟨h.nd, by simp, fun x hx y hy z => ?_⟩
    simp at hy; subst hy; subst z; exact out hx
  · have gr := ex.grow h
    by_cases hn : n < ρ.length
    · rw [List.getElem?_append_left hn] at e2
      rw [List.getElem?_append_left (by rw [<- h.len]; exact hn)] at e1
      obtain ⟨ho', q1, q2⟩ := h.ob n o' b e1 e2
      exact ⟨ho', by rw [upd_ne (ne_of_none q1 ha)]; exact q1, q2.mono gr [a]⟩
    · have hn' : n = ρ.length := by
        have := (List.getElem?_eq_some_iff.mp e2).1
        simp at this; omega
      subst hn'
      simp at e2
      rw [h.len] at e1
      simp at e1
      subst e1; subst e2
      exact ⟨ho, upd_same, c.mono gr [a]⟩
theorem RH.put (h : RH K ρ H hd) {n : Nat} {a : Addr} (hn : ρ[n]? = some a) {o : MO} {ho : HO} (c : RC K ρ H o ho) : RH K ρ (upd H a ho) (hd.set n o) /\ Ext ρ H ρ (upd H a ho) := by
  have ex : Ext ρ H ρ (upd H a ho) := ⟨⟨[], by simp, by simp⟩, fun b o q m => by
    have : b ≠ a := fun z => m (by rw [z]; exact List.mem_of_getElem? hn)
    rw [upd_ne this]; exact q⟩
  have gr := ex.grow h
  refine ⟨⟨by simp [h.len], h.nd, fun m o' b e1 e2 => ?_⟩, ex⟩
  have hm : m < hd.length := by rw [<- h.len]; exact (List.getElem?_eq_some_iff.mp e2).1
  by_cases hmn : m = n
  · subst hmn
    rw [hn] at e2; cases e2
    rw [List.getElem?_set_self hm] at e1
    cases e1
    exact ⟨ho, upd_same, by simpa using c.mono gr []⟩
  · rw [List.getElem?_set_ne (fun z => hmn z.symm)] at e1
    obtain ⟨ho', q1, q2⟩ := h.ob m o' b e1 e2
    have : b ≠ a := fun z => by
      subst z
      have l1 := (List.getElem?_eq_some_iff.mp e2).1
      have l2 := (List.getElem?_eq_some_iff.mp hn).1
      exact hmn ((List.getElem?_inj l1 h.nd).mp (e2.trans hn.symm))
    exact ⟨ho', by rw [upd_ne this]; exact q1, by simpa using q2.mono gr []⟩
theorem RH.lst (h : RH K ρ H hd) {n : Nat} {a : Addr} {ds : List D} (hn : ρ[n]? = some a) (e : hd[n]? = some (.lst ds)) : ∃ xs, H a = some (.lst xs) /\ RDs K ρ H ds xs := by
  obtain ⟨ho, q, xs, rfl, r⟩ := h.ob n _ a e hn
  exact ⟨xs, q, r⟩
theorem RH.dic (h : RH K ρ H hd) {n : Nat} {a : Addr} {ds : List (Key × D)} (hn : ρ[n]? = some a) (e : hd[n]? = some (.dic ds)) : ∃ xs, H a = some (.dK xs) /\ RKs K ρ H ds xs := by
  obtain ⟨ho, q, xs, rfl, r⟩ := h.ob n _ a e hn
  exact ⟨xs, q, r⟩
theorem RH.hid (h : RH K ρ H hd) {a : Addr} (ha : H a = none) {ho : HO} : RH K ρ (upd H a ho) hd /\ Ext ρ H ρ (upd H a ho) := by
  have out : a ∉ ρ := fun m => by rcases h.mut m with ⟨y, z⟩ | ⟨y, z⟩ <;> (rw [ha] at z; cases z)
  have ex : Ext ρ H ρ (upd H a ho) := ⟨⟨[], by simp, by simp⟩, fun b o q n => by rw [upd_ne (ne_of_none q ha)]; exact q⟩
  have gr := ex.grow h
  refine ⟨⟨h.len, h.nd, fun m o' b e1 e2 => ?_⟩, ex⟩
  obtain ⟨ho', q1, q2⟩ := h.ob m o' b e1 e2
  exact ⟨ho', by rw [upd_ne (ne_of_none q1 ha)]; exact q1, by simpa using q2.mono gr []⟩
theorem RH.hput (h : RH K ρ H hd) {a : Addr} (out : a ∉ ρ) {xs : List V} {ho : HO} (hl : H a = some (.lst xs)) : RH K ρ (upd H a ho) hd := by
  have gr : Grow H (upd H a ho) := Grow.refl.put (.lst hl)
  refine ⟨h.len, h.nd, fun m o' b e1 e2 => ?_⟩
  obtain ⟨ho', q1, q2⟩ := h.ob m o' b e1 e2
  have : b ≠ a := fun z => out (by rw [<- z]; exact List.mem_of_getElem? e2)
  exact ⟨ho', by rw [upd_ne this]; exact q1, by simpa using q2.mono gr []⟩
end
end L2
namespace L2
open PySem PySem.Spec PyProof.Rows
abbrev ME := Ls -> Hd -> Option (D × Hd)
abbrev MT := Ls -> Hd -> Option (Bool × Hd)
abbrev MA := Ls -> Hd -> Option (List D × Hd)
inductive Fl where
  | nx (ls : Ls) | rt (d : D) | bk (ls : Ls) | ct (ls : Ls)
abbrev MS := Ls -> Hd -> Option (Fl × Hd)
section
variable (K : PySem.W.Frag)
def RE (t : TE) (m : ME) : Prop := ∀ (ρ : List Addr) (σ : St) (H : Hp) (hd : Hd) (ls : Ls) (Q : VK) (d : D) (hd' : Hd), RH K ρ H hd -> RL K ρ H ls σ -> m ls hd = some (d, hd') ->
  (∀ ρ' H' v, Ext ρ H ρ' H' -> RH K ρ' H' hd' -> RD K ρ' H' d v -> Q v H') -> t σ H Q
def RT (t : TT) (m : MT) : Prop := ∀ (ρ : List Addr) (σ : St) (H : Hp) (hd : Hd) (ls : Ls) (Q : Bool -> Hp -> Prop) (d : Bool) (hd' : Hd), RH K ρ H hd -> RL K ρ H ls σ -> m ls hd = some (d, hd') ->
  (∀ ρ' H', Ext ρ H ρ' H' -> RH K ρ' H' hd' -> Q d H') -> t σ H Q
def RA (t : TA) (m : MA) : Prop := ∀ (ρ : List Addr) (σ : St) (H : Hp) (hd : Hd) (ls : Ls) (Q : List V -> Hp -> Prop) (d : List D) (hd' : Hd), RH K ρ H hd -> RL K ρ H ls σ -> m ls hd = some (d, hd') ->
  (∀ ρ' H' v, Ext ρ H ρ' H' -> RH K ρ' H' hd' -> RDs K ρ' H' d v -> Q v H') -> t σ H Q
def RN (t : TE) (m : MA) : Prop := ∀ (ρ : List Addr) (σ : St) (H : Hp) (hd : Hd) (ls : Ls) (Q : VK) (d : List D) (hd' : Hd), RH K ρ H hd -> RL K ρ H ls σ -> m ls hd = some (d, hd') ->
  (∀ ρ' H' a xs, Ext ρ H ρ' H' -> RH K ρ' H' hd' -> H a = none -> a ∉ ρ' -> H' a = some (.lst xs) -> RDs K ρ' H' d xs -> Q (.ref a) H') -> t σ H Q
def Lands (E : Ends) (ρ : List Addr) (H : Hp) : Fl -> Prop
  | .nx ls => ∀ σ, RL K ρ H ls σ -> E.nx σ H
  | .bk ls => ∀ σ, RL K ρ H ls σ -> E.bk σ H
  | .ct ls => ∀ σ, RL K ρ H ls σ -> E.ct σ H
  | .rt d => ∀ v, RD K ρ H d v -> E.rt v H
def RS (t : TS) (m : MS) : Prop := ∀ (ρ : List Addr) (σ : St) (H : Hp) (hd : Hd) (ls : Ls) (E : Ends) (f : Fl) (hd' : Hd), RH K ρ H hd -> RL K ρ H ls σ -> m ls hd = some (f, hd') ->
  (∀ ρ' H', Ext ρ H ρ' H' -> RH K ρ' H' hd' -> Lands K E ρ' H' f) -> t E σ H
def RB (r : R2) (f : D -> D -> Hd -> Option (D × Hd)) : Prop := ∀ (ρ : List Addr) (H : Hp) (hd : Hd) (d e : D) (v u : V) (Q : VK) (z : D) (hd' : Hd), RH K ρ H hd -> RD K ρ H d v -> RD K ρ H e u -> f d e hd = some (z, hd') ->
  (∀ ρ' H' w, Ext ρ H ρ' H' -> RH K ρ' H' hd' -> RD K ρ' H' z w -> Q w H') -> r v u H Q
def RF (r : List V -> Hp -> VK -> Prop) (f : List D -> Hd -> Option (D × Hd)) : Prop := ∀ (ρ : List Addr) (H : Hp) (hd : Hd) (ds : List D) (vs : List V) (Q : VK) (z : D) (hd' : Hd), RH K ρ H hd -> RDs K ρ H ds vs -> f ds hd = some (z, hd') ->
  (∀ ρ' H' w, Ext ρ H ρ' H' -> RH K ρ' H' hd' -> RD K ρ' H' z w -> Q w H') -> r vs H Q
def RG (tp : Bool) (r : List V -> Hp -> VK -> Prop) (g : List D -> Option D) : Prop := ∀ (ρ : List Addr) (H : Hp) (hd : Hd) (a : Addr) (xs : List V) (ds : List D) (Q : VK) (z : D), RH K ρ H hd -> (SqL K H a xs ∨ (tp = true /\ SqT K H a xs)) -> RDs K ρ H ds xs -> g ds = some z ->
  (∀ H' w, Ext ρ H ρ H' -> RH K ρ H' hd -> RD K ρ H' z w -> Q w H') -> r [.ref a] H Q
end
structure QE (K : PySem.W.Frag) (X : Cx) (e : Expr) (t : TE) (m : ME) : Prop where
  p : PE X e t
  r : RE K t m
structure QT (K : PySem.W.Frag) (X : Cx) (e : Expr) (t : TT) (m : MT) : Prop where
  p : PT X e t
  r : RT K t m
structure QW (K : PySem.W.Frag) (X : Cx) (e : Expr) (t : TT) (m : MT) : Prop where
  p : PW X e t
  r : RT K t m
structure QA (K : PySem.W.Frag) (X : Cx) (e : List Expr) (t : TA) (m : MA) : Prop where
  p : PA X e t
  r : RA K t m
structure QN (K : PySem.W.Frag) (X : Cx) (e : Expr) (t : TE) (m : MA) : Prop where
  p : PE X e t
  r : RN K t m
structure QS (K : PySem.W.Frag) (X : Cx) (e : Stmt) (t : TS) (m : MS) : Prop where
  p : PS X e t
  r : RS K t m
structure QSs (K : PySem.W.Frag) (X : Cx) (e : List Stmt) (t : TS) (m : MS) : Prop where
  p : PSs X e t
  r : RS K t m
def tupView : D -> Option (List D)
  | .im (.tup is) => some (is.map .im)
  | .tm ds => some ds
  | _ => none
def lstView (hd : Hd) : D -> Option (List D)
  | .mu n => match hd[n]? with
    | some (.lst ds) => some ds
    | _ => none
  | .ro ns => some (ns.map fun n => .im (.int n))
  | _ => none
def seqView (hd : Hd) (d : D) : Option (List D) := match tupView d with
  | some ds => some ds
  | none => lstView hd d
def allIm : List D -> Option (List I)
  | [] => some []
  | .im i :: r => (allIm r).map (i :: ·)
  | _ :: _ => none
def mkTup (ds : List D) : D := match allIm ds with
  | some is => .im (.tup is)
  | none => .tm ds
def intsD : List D -> Option (List Int)
  | [] => some []
  | .im (.int i) :: r => (intsD r).map (i :: ·)
  | _ :: _ => none
def blsD : List D -> Option (List Bool)
  | [] => some []
  | .im (.bl i) :: r => (blsD r).map (i :: ·)
  | _ :: _ => none
section
variable {K : PySem.W.Frag} {ρ ρ' : List Addr} {H H' : Hp} {hd hd' : Hd}
theorem allIm_eq : ∀ {ds : List D} {is : List I}, allIm ds = some is -> ds = is.map .im
  | [], is, h => by simp [allIm] at h; subst h; rfl
  | .im i :: r, is, h => by
    simp only [allIm, Option.map_eq_some_iff] at h
    obtain ⟨js, e, rfl⟩ := h
    simp [allIm_eq e]
  | .mu _ :: _, is, h => by simp [allIm] at h
  | .tm _ :: _, is, h => by simp [allIm] at h
  | .ro _ :: _, is, h => by simp [allIm] at h
theorem intsD_eq : ∀ {ds : List D} {is : List Int}, intsD ds = some is -> ds = is.map fun i => .im (.int i)
  | [], is, h => by simp [intsD] at h; subst h; rfl
  | .im (.int i) :: r, is, h => by
    simp only [intsD, Option.map_eq_some_iff] at h
    obtain ⟨js, e, rfl⟩ := h
    simp [intsD_eq e]
  | .im (.bl _) :: _, is, h => by simp [intsD] at h
  | .im (.str _) :: _, is, h => by simp [intsD] at h
  | .im .non :: _, is, h => by simp [intsD] at h
  | .im (.tup _) :: _, is, h => by simp [intsD] at h
  | .mu _ :: _, is, h => by simp [intsD] at h
  | .tm _ :: _, is, h => by simp [intsD] at h
  | .ro _ :: _, is, h => by simp [intsD] at h
theorem blsD_eq : ∀ {ds : List D} {is : List Bool}, blsD ds = some is -> ds = is.map fun i => .im (.bl i)
  | [], is, h => by simp [blsD] at h; subst h; rfl
  | .im (.bl i) :: r, is, h => by
    simp only [blsD, Option.map_eq_some_iff] at h
    obtain ⟨js, e, rfl⟩ := h
    simp [blsD_eq e]
  | .im (.int _) :: _, is, h => by simp [blsD] at h
  | .im (.str _) :: _, is, h => by simp [blsD] at h
  | .im .non :: _, is, h => by simp [blsD] at h
  | .im (.tup _) :: _, is, h => by simp [blsD] at h
  | .mu _ :: _, is, h => by simp [blsD] at h
  | .tm _ :: _, is, h => by simp [blsD] at h
  | .ro _ :: _, is, h => by simp [blsD] at h
@[simp] theorem allIm_map (is : List I) : allIm (is.map .im) = some is := by induction is <;> simp_all [allIm]
@[simp] theorem intsD_map (is : List Int) : intsD (is.map fun i => .im (.int i)) = some is := by induction is <;> simp_all [intsD]
@[simp] theorem blsD_map (is : List Bool) : blsD (is.map fun i => .im (.bl i)) = some is := by induction is <;> simp_all [blsD]
theorem rd_ints : ∀ {ns : List Int} {xs : List V}, RDs K ρ H (ns.map fun i => .im (.int i)) xs -> xs = ns.map V.int
  | [], xs, h => by simpa [RDs] using h
  | n :: ns, xs, h => by
    simp only [List.map_cons, RDs, RD, RI] at h
    obtain ⟨x, r, rfl, rfl, z⟩ := h
    rw [rd_ints z]; rfl
theorem ints_rd : ∀ {ns : List Int}, RDs K ρ H (ns.map fun i => .im (.int i)) (ns.map V.int)
  | [] => by simp [RDs]
  | n :: ns => by simp only [List.map_cons]; exact .cons (by simp [RD, RI]) ints_rd
theorem rd_bls : ∀ {ns : List Bool} {xs : List V}, RDs K ρ H (ns.map fun i => .im (.bl i)) xs -> xs = ns.map V.bl
  | [], xs, h => by simpa [RDs] using h
  | n :: ns, xs, h => by
    simp only [List.map_cons, RDs, RD, RI] at h
    obtain ⟨x, r, rfl, rfl, z⟩ := h
    rw [rd_bls z]; rfl
theorem RD.tup {d : D} {v : V} {ds : List D} (h : RD K ρ H d v) (e : tupView d = some ds) : ∃ a xs, v = .ref a /\ SqT K H a xs /\ RDs K ρ H ds xs := by
  cases d with
  | im i =>
    cases i with
    | tup is =>
      simp only [tupView, Option.some.injEq] at e
      subst e
      simp only [RD, RI] at h
      obtain ⟨a, xs, rfl, q, r⟩ := h
      exact ⟨a, xs, rfl, q, r.ds⟩
    | _ => simp [tupView] at e
  | tm es =>
    simp only [tupView, Option.some.injEq] at e
    subst e
    simpa only [RD] using h
  | _ => simp [tupView] at e
theorem RD.lst {d : D} {v : V} {ds : List D} (hR : RH K ρ H hd) (h : RD K ρ H d v) (e : lstView hd d = some ds) : ∃ a xs, v = .ref a /\ SqL K H a xs /\ RDs K ρ H ds xs := by
  cases d with
  | mu n =>
    simp only [lstView] at e
    simp only [RD] at h
    obtain ⟨a, hn, rfl⟩ := h
    split at e
    · next q =>
      cases e
      obtain ⟨xs, e1, e2⟩ := hR.lst hn q
      exact ⟨a, xs, rfl, SqL.of e1, e2⟩
    · cases e
  | ro ns =>
    simp only [lstView, Option.some.injEq] at e
    subst e
    simp only [RD] at h
    obtain ⟨a, rfl, q⟩ := h
    exact ⟨a, _, rfl, q.sq, ints_rd⟩
  | _ => simp [lstView] at e
theorem RD.seq {d : D} {v : V} {ds : List D} (hR : RH K ρ H hd) (h : RD K ρ H d v) (e : seqView hd d = some ds) : ∃ a xs, v = .ref a /\ (SqL K H a xs ∨ SqT K H a xs) /\ RDs K ρ H ds xs := by
  unfold seqView at e
  split at e
  · next q =>
    cases e
    obtain ⟨a, xs, e1, e2, e3⟩ := h.tup q
    exact ⟨a, xs, e1, .inr e2, e3⟩
  · obtain ⟨a, xs, e1, e2, e3⟩ := h.lst hR e
    exact ⟨a, xs, e1, .inl e2, e3⟩
theorem rd_mkTup {ds : List D} {a : Addr} {xs : List V} (q : SqT K H a xs) (r : RDs K ρ H ds xs) : RD K ρ H (mkTup ds) (.ref a) := by
  unfold mkTup
  split
  · next e =>
    rw [allIm_eq e] at r
    simp only [RD, RI]
    exact ⟨a, xs, rfl, q, r.is⟩
  · simp only [RD]
    exact ⟨a, xs, rfl, q, r⟩
def mVar (i : Nat) : ME := fun ls hd => match ls[i]? with
  | some (some d) => some (d, hd)
  | _ => none
theorem re_var {i : Nat} : RE K (tVar i) (mVar i) := by
  intro ρ σ H hd ls Q d hd' hR hL hm hQ
  unfold mVar at hm
  split at hm
  · next e =>
    cases hm
    obtain ⟨v, e1, e2⟩ := hL.ob i _ e
    exact ⟨v, e1, hQ ρ H v .refl hR e2⟩
  · cases hm
def mC (i : I) : ME := fun _ hd => some (.im i, hd)
theorem re_c {v : V} {i : I} (h : ∀ H, RI K H i v) : RE K (tC v) (mC i) := by
  intro ρ σ H hd ls Q d hd' hR hL hm hQ
  cases hm
  exact hQ ρ H v .refl hR (by simpa only [RD] using h H)
def mOp (f : D -> D -> Hd -> Option (D × Hd)) (ma mb : ME) : ME := fun ls hd => (ma ls hd).bind fun p => (mb ls p.2).bind fun q => f p.1 q.1 q.2
theorem re_op {r : R2} {f : D -> D -> Hd -> Option (D × Hd)} {ta tb : TE} {ma mb : ME} (hr : RB K r f) (ha : RE K ta ma) (hb : RE K tb mb) : RE K (tOp r ta tb) (mOp f ma mb) := by
  intro ρ σ H hd ls Q d hd' hR hL hm hQ
  obtain ⟨⟨d1, h1⟩, e1, hm⟩ := Option.bind_eq_some_iff.mp hm
  obtain ⟨⟨d2, h2⟩, e2, hm⟩ := Option.bind_eq_some_iff.mp hm
  refine ha ρ σ H hd ls _ d1 h1 hR hL e1 fun ρ1 H1 v1 x1 R1 r1 => ?_
  refine hb ρ1 σ H1 h1 ls _ d2 h2 R1 (hL.ext hR x1) e2 fun ρ2 H2 v2 x2 R2 r2 => ?_
  exact hr ρ2 H2 h2 d1 d2 v1 v2 Q d hd' R2 (r1.ext R1 x2) r2 hm fun ρ' H' w x3 R3 r3 => hQ ρ' H' w ((x1.trans R1 x2).trans R2 x3) R3 r3
def mAnd (ta tb : MT) : MT := fun ls hd => (ta ls hd).bind fun p => if p.1 = true then tb ls p.2 else some (false, p.2)
def mOr (ta tb : MT) : MT := fun ls hd => (ta ls hd).bind fun p => if p.1 = true then some (true, p.2) else tb ls p.2
def mNot (ta : MT) : MT := fun ls hd => (ta ls hd).bind fun p => some (!p.1, p.2)
theorem rt_and {ta tb : TT} {ma mb : MT} (ha : RT K ta ma) (hb : RT K tb mb) : RT K (tAnd ta tb) (mAnd ma mb) := by
  intro ρ σ H hd ls Q d hd' hR hL hm hQ
  obtain ⟨⟨d1, h1⟩, e1, hm⟩ := Option.bind_eq_some_iff.mp hm
  refine ha ρ σ H hd ls _ d1 h1 hR hL e1 fun ρ1 H1 x1 R1 => ?_
  cases d1 with
  | true =>
    rw [if_pos rfl] at hm ⊢
    exact hb ρ1 σ H1 h1 ls Q d hd' R1 (hL.ext hR x1) hm fun ρ2 H2 x2 R2 => hQ ρ2 H2 (x1.trans R1 x2) R2
  | false =>
    rw [if_neg Bool.false_ne_true] at hm ⊢
    cases hm
    exact hQ ρ1 H1 x1 R1
theorem rt_or {ta tb : TT} {ma mb : MT} (ha : RT K ta ma) (hb : RT K tb mb) : RT K (tOr ta tb) (mOr ma mb) := by
  intro ρ σ H hd ls Q d hd' hR hL hm hQ
  obtain ⟨⟨d1, h1⟩, e1, hm⟩ := Option.bind_eq_some_iff.mp hm
  refine ha ρ σ H hd ls _ d1 h1 hR hL e1 fun ρ1 H1 x1 R1 => ?_
  cases d1 with
  | true =>
    rw [if_pos rfl] at hm ⊢
    cases hm
    exact hQ ρ1 H1 x1 R1
  | false =>
    rw [if_neg Bool.false_ne_true] at hm ⊢
    exact hb ρ1 σ H1 h1 ls Q d hd' R1 (hL.ext hR x1) hm fun ρ2 H2 x2 R2 => hQ ρ2 H2 (x1.trans R1 x2) R2
theorem rt_not {ta : TT} {ma : MT} (ha : RT K ta ma) : RT K (tNot ta) (mNot ma) := by
  intro ρ σ H hd ls Q d hd' hR hL hm hQ
  obtain ⟨⟨d1, h1⟩, e1, hm⟩ := Option.bind_eq_some_iff.mp hm
  cases hm
  exact ha ρ σ H hd ls _ d1 h1 hR hL e1 fun ρ1 H1 x1 R1 => hQ ρ1 H1 x1 R1
open Classical in
noncomputable def truD (hd : Hd) : D -> Option Bool
  | .im .non => some false
  | .im (.bl b) => some b
  | .im (.int i) => some (i != 0)
  | .im (.str x) => if fits x.length then some ((x.length : Int) != 0) else none
  | .im (.tup is) => some (!is.isEmpty)
  | .tm is => some (!is.isEmpty)
  | .ro ns => some (!ns.isEmpty)
  | .mu n => match hd[n]? with
    | some (.lst ds) => some (!ds.isEmpty)
    | some (.dic ds) => some (!ds.isEmpty)
    | none => none
theorem isEmpty_len {α β : Type} {xs : List α} {ys : List β} (h : xs.length = ys.length) : xs.isEmpty = ys.isEmpty := by
  cases xs <;> cases ys <;> simp_all
theorem RKs.len : ∀ {ds : List (Key × D)} {xs : List (Key × V)}, RKs K ρ H ds xs -> xs.length = ds.length
  | [], xs, h => by simp only [RKs] at h; rw [h]; rfl
  | d :: ds, xs, h => by
    simp only [RKs] at h
    obtain ⟨x, r, rfl, _, _, z⟩ := h
    simp [RKs.len z]
theorem truD_ok {d : D} {v : V} {b : Bool} (hR : RH K ρ H hd) (h : RD K ρ H d v) (e : truD hd d = some b) : TruV K v H b := by
  cases d with
  | im i =>
    cases i with
    | non => simp only [RD, RI] at h; subst h; simp only [truD, Option.some.injEq] at e; subst e; exact rfl
    | bl c => simp only [RD, RI] at h; subst h; simp only [truD, Option.some.injEq] at e; subst e; exact rfl
    | int c => simp only [RD, RI] at h; subst h; simp only [truD, Option.some.injEq] at e; subst e; exact rfl
    | str c =>
      simp only [RD, RI] at h; subst h; simp only [truD] at e
      split at e
      · next z => cases e; exact ⟨z, rfl⟩
      · cases e
    | tup is =>
      obtain ⟨a, xs, rfl, q, r⟩ := h.tup (ds := is.map .im) rfl
      simp only [truD, Option.some.injEq] at e; subst e
      exact .inr (.inl ⟨xs, q, by rw [isEmpty_len (show xs.length = is.length by simpa using r.len)]⟩)
  | tm ds =>
    obtain ⟨a, xs, rfl, q, r⟩ := h.tup (ds := ds) rfl
    simp only [truD, Option.some.injEq] at e; subst e
    exact .inr (.inl ⟨xs, q, by rw [isEmpty_len r.len]⟩)
  | ro ns =>
    obtain ⟨a, xs, rfl, q, r⟩ := h.lst hR (hd := hd) (ds := ns.map fun n => .im (.int n)) rfl
    simp only [truD, Option.some.injEq] at e; subst e
    exact .inl ⟨xs, q, by rw [isEmpty_len (show xs.length = ns.length by simpa using r.len)]⟩
  | mu n =>
    simp only [RD] at h
    obtain ⟨a, hn, rfl⟩ := h
    simp only [truD] at e
    split at e
    · next q =>
      cases e
      obtain ⟨xs, e1, e2⟩ := hR.lst hn q
      exact .inl ⟨xs, SqL.of e1, by rw [isEmpty_len e2.len]⟩
    · next q =>
      cases e
      obtain ⟨xs, e1, e2⟩ := hR.dic hn q
      exact .inr (.inr ⟨xs, e1, by rw [isEmpty_len e2.len]⟩)
    · cases e
noncomputable def mTru (ma : ME) : MT := fun ls hd => (ma ls hd).bind fun p => (truD p.2 p.1).map (·, p.2)
theorem rt_truth {ta : TE} {ma : ME} (ha : RE K ta ma) : RT K (fun σ H Q => ta σ H fun x H' => ∃ k, TruV K x H' k /\ Q k H') (mTru ma) := by
  intro ρ σ H hd ls Q d hd' hR hL hm hQ
  obtain ⟨⟨d1, h1⟩, e1, hm⟩ := Option.bind_eq_some_iff.mp hm
  obtain ⟨b, e2, e3⟩ := Option.map_eq_some_iff.mp hm
  cases e3
  exact ha ρ σ H hd ls _ d1 h1 hR hL e1 fun ρ1 H1 v x1 R1 r1 => ⟨_, truD_ok R1 r1 e2, hQ ρ1 H1 x1 R1⟩
def mTest (ma : ME) : MT := fun ls hd => (ma ls hd).bind fun p => match p.1 with
  | .im (.bl b) => some (b, p.2)
  | _ => none
theorem rt_test {ta : TE} {ma : ME} (ha : RE K ta ma) : RT K (tTest ta) (mTest ma) := by
  intro ρ σ H hd ls Q d hd' hR hL hm hQ
  obtain ⟨⟨d1, h1⟩, e1, hm⟩ := Option.bind_eq_some_iff.mp hm
  dsimp only at hm
  split at hm
  · cases hm
    exact ha ρ σ H hd ls _ _ _ hR hL e1 fun ρ1 H1 v x1 R1 r1 => ⟨_, by simpa only [RD, RI] using r1, hQ ρ1 H1 x1 R1⟩
  · cases hm
theorem rt_B {ta : TE} {ma : ME} (ha : RE K ta ma) : RT K (tB ta) (mTest ma) := rt_test ha
def mIf (c : MT) (ma mb : ME) : ME := fun ls hd => (c ls hd).bind fun p => if p.1 = true then ma ls p.2 else mb ls p.2
theorem re_if {tc : TT} {c : MT} {ta tb : TE} {ma mb : ME} (hc : RT K tc c) (ha : RE K ta ma) (hb : RE K tb mb) : RE K (tIf tc ta tb) (mIf c ma mb) := by
  intro ρ σ H hd ls Q d hd' hR hL hm hQ
  obtain ⟨⟨d1, h1⟩, e1, hm⟩ := Option.bind_eq_some_iff.mp hm
  refine hc ρ σ H hd ls _ d1 h1 hR hL e1 fun ρ1 H1 x1 R1 => ?_
  cases d1 with
  | true =>
    rw [if_pos rfl] at hm ⊢
    exact ha ρ1 σ H1 h1 ls Q d hd' R1 (hL.ext hR x1) hm fun ρ2 H2 v x2 R2 r2 => hQ ρ2 H2 v (x1.trans R1 x2) R2 r2
  | false =>
    rw [if_neg Bool.false_ne_true] at hm ⊢
    exact hb ρ1 σ H1 h1 ls Q d hd' R1 (hL.ext hR x1) hm fun ρ2 H2 v x2 R2 r2 => hQ ρ2 H2 v (x1.trans R1 x2) R2 r2
def mAndV (ma mb : ME) : ME := fun ls hd => (mTest ma ls hd).bind fun p => if p.1 = true then mb ls p.2 else some (.im (.bl false), p.2)
def mOrV (ma mb : ME) : ME := fun ls hd => (mTest ma ls hd).bind fun p => if p.1 = true then some (.im (.bl true), p.2) else mb ls p.2
def mNotV (ma : ME) : ME := fun ls hd => (mTest ma ls hd).bind fun p => some (.im (.bl (!p.1)), p.2)
theorem re_andV {ta tb : TE} {ma mb : ME} (ha : RE K ta ma) (hb : RE K tb mb) : RE K (tAndV ta tb) (mAndV ma mb) := by
  intro ρ σ H hd ls Q d hd' hR hL hm hQ
  obtain ⟨⟨d1, h1⟩, e1, hm⟩ := Option.bind_eq_some_iff.mp hm
  refine rt_test ha ρ σ H hd ls (fun c H1 => if c = true then tb σ H1 Q else Q (.bl false) H1) d1 h1 hR hL e1 fun ρ1 H1 x1 R1 => ?_
  cases d1 with
  | true =>
    rw [if_pos rfl] at hm ⊢
    exact hb ρ1 σ H1 h1 ls Q d hd' R1 (hL.ext hR x1) hm fun ρ2 H2 v x2 R2 r2 => hQ ρ2 H2 v (x1.trans R1 x2) R2 r2
  | false =>
    rw [if_neg Bool.false_ne_true] at hm ⊢
    cases hm
    exact hQ ρ1 H1 _ x1 R1 (by simp [RD, RI])
def mNil : MA := fun _ hd => some ([], hd)
def mCons (ma : ME) (mr : MA) : MA := fun ls hd => (ma ls hd).bind fun p => (mr ls p.2).bind fun q => some (p.1 :: q.1, q.2)
theorem ra_nil : RA K tNil mNil := by
  intro ρ σ H hd ls Q d hd' hR hL hm hQ
  cases hm
  exact hQ ρ H [] .refl hR .nil
theorem ra_cons {ta : TE} {tr : TA} {ma : ME} {mr : MA} (ha : RE K ta ma) (hr : RA K tr mr) : RA K (tCons ta tr) (mCons ma mr) := by
  intro ρ σ H hd ls Q d hd' hR hL hm hQ
  obtain ⟨⟨d1, h1⟩, e1, hm⟩ := Option.bind_eq_some_iff.mp hm
  obtain ⟨⟨d2, h2⟩, e2, hm⟩ := Option.bind_eq_some_iff.mp hm
  cases hm
  refine ha ρ σ H hd ls _ d1 h1 hR hL e1 fun ρ1 H1 v1 x1 R1 r1 => ?_
  exact hr ρ1 σ H1 h1 ls _ d2 _ R1 (hL.ext hR x1) e2 fun ρ2 H2 v2 x2 R2 r2 => hQ ρ2 H2 _ (x1.trans R1 x2) R2 (.cons (r1.ext R1 x2) r2)
open Classical in
noncomputable def mTup (ma : MA) : ME := fun ls hd => (ma ls hd).bind fun p => if fits p.1.length then some (mkTup p.1, p.2) else none
theorem re_tup {t : TA} {m : MA} (h : RA K t m) : RE K (tTup t) (mTup m) := by
  intro ρ σ H hd ls Q d hd' hR hL hm hQ
  obtain ⟨⟨d1, h1⟩, e1, hm⟩ := Option.bind_eq_some_iff.mp hm
  dsimp only at hm
  split at hm
  · next z =>
    cases hm
    refine h ρ σ H hd ls _ d1 _ hR hL e1 fun ρ1 H1 v1 x1 R1 r1 => ⟨by rw [r1.len]; exact z, fun p hp => ?_⟩
    obtain ⟨R2, x2⟩ := R1.hid (ho := .tup v1) hp
    exact hQ ρ1 _ _ (x1.trans R1 x2) R2 (rd_mkTup (SqT.of upd_same) (r1.ext R1 x2))
  · cases hm
open Classical in
noncomputable def mLst (ma : MA) : MA := fun ls hd => (ma ls hd).bind fun p => if fits p.1.length then some (p.1, p.2) else none
theorem RH.out (hR : RH K ρ H hd) {a : Addr} (h : H a = none) : a ∉ ρ := fun m => by rcases hR.mut m with ⟨y, z⟩ | ⟨y, z⟩ <;> (rw [h] at z; cases z)
theorem Ext.none (e : Ext ρ H ρ' H') (hR : RH K ρ H hd) {a : Addr} (h : H' a = none) (hR' : RH K ρ' H' hd') : H a = none := by
  cases q : H a with
  | none => rfl
  | some o =>
    by_cases m : a ∈ ρ
    · obtain ⟨r, rfl, _⟩ := e.pre
      exact absurd (List.mem_append_left r m) (hR'.out h)
    · rw [e.keep a o q m] at h; cases h
theorem rn_lst {t : TA} {m : MA} (h : RA K t m) : RN K (tLst t) (mLst m) := by
  intro ρ σ H hd ls Q d hd' hR hL hm hQ
  obtain ⟨⟨d1, h1⟩, e1, hm⟩ := Option.bind_eq_some_iff.mp hm
  dsimp only at hm
  split at hm
  · next z =>
    cases hm
    refine h ρ σ H hd ls _ _ _ hR hL e1 fun ρ1 H1 v1 x1 R1 r1 => ⟨by rw [r1.len]; exact z, fun p hp => ?_⟩
    obtain ⟨R2, x2⟩ := R1.hid (ho := .lst v1) hp
    exact hQ ρ1 _ p v1 (x1.trans R1 x2) R2 (x1.none hR hp R1) (R1.out hp) upd_same (r1.ext R1 x2)
  · cases hm
def mNew (ml : MA) : ME := fun ls hd => (ml ls hd).bind fun p => some (.mu p.2.length, p.2 ++ [.lst p.1])
theorem RH.name (hR : RH K ρ H hd) {a : Addr} {xs : List V} {ds : List D} (out : a ∉ ρ) (e : H a = some (.lst xs)) (r : RDs K ρ H ds xs) : RH K (ρ ++ [a]) H (hd ++ [.lst ds]) := by
  have mono : ∀ {o : MO} {ho : HO}, RC K ρ H o ho -> RC K (ρ ++ [a]) H o ho := fun c => c.mono Grow.refl [a]
  refine ⟨by simp [hR.len], ?_, fun n o' b e1 e2 => ?_⟩
  · rw [List.nodup_append]
    refine ⟨hR.nd, by simp, fun x hx y hy z => ?_⟩
    simp at hy; subst hy; subst z; exact out hx
  · by_cases hn : n < ρ.length
    · rw [List.getElem?_append_left hn] at e2
      rw [List.getElem?_append_left (by rw [<- hR.len]; exact hn)] at e1
      obtain ⟨ho', q1, q2⟩ := hR.ob n o' b e1 e2
      exact ⟨ho', q1, mono q2⟩
    · have hn' : n = ρ.length := by
        have := (List.getElem?_eq_some_iff.mp e2).1
        simp at this; omega
      subst hn'
      simp at e2
      rw [hR.len] at e1
      simp at e1
      subst e1; subst e2
      exact ⟨_, e, mono ⟨xs, rfl, r⟩⟩
theorem Ext.name (e : Ext ρ H ρ' H') {a : Addr} (h : H a = Option.none) : Ext ρ H (ρ' ++ [a]) H' := by
  obtain ⟨r, rfl, f⟩ := e.pre
  refine ⟨⟨r ++ [a], by simp, fun b m => ?_⟩, e.keep⟩
  rcases List.mem_append.mp m with m | m
  · exact f b m
  · simp at m; subst m; exact h
theorem re_new {t : TE} {m : MA} (h : RN K t m) : RE K t (mNew m) := by
  intro ρ σ H hd ls Q d hd' hR hL hm hQ
  obtain ⟨⟨d1, h1⟩, e1, hm⟩ := Option.bind_eq_some_iff.mp hm
  cases hm
  refine h ρ σ H hd ls Q d1 h1 hR hL e1 fun ρ1 H1 a xs x1 R1 na oa ea r1 => ?_
  refine hQ (ρ1 ++ [a]) H1 _ (x1.name na) (R1.name oa ea r1) ?_
  simp only [RD]
  exact ⟨a, by rw [<- R1.len]; simp, rfl⟩
end
end L2
namespace L2
open PySem PySem.Spec PyProof.Rows
section
variable {K : PySem.W.Frag} {ρ ρ' : List Addr} {H H' : Hp} {hd hd' : Hd}
def fI (g : Int -> Int -> Option I) : D -> D -> Hd -> Option (D × Hd)
  | .im (.int i), .im (.int j), hd => (g i j).map (.im ·, hd)
  | _, _, _ => none
theorem rb_I {C : Int -> Int -> Prop} {g : Int -> Int -> V} {f : Int -> Int -> Option I} (h : ∀ i j z, f i j = some z -> C i j /\ ∀ H, RI K H z (g i j)) : RB K (rI C g) (fI f) := by
  intro ρ H hd d e v u Q z hd' hR h1 h2 hf hQ
  unfold fI at hf
  split at hf
  · simp only [RD, RI] at h1 h2
    subst h1 h2
    obtain ⟨w, e1, e2⟩ := Option.map_eq_some_iff.mp hf
    cases e2
    obtain ⟨c, r⟩ := h _ _ _ e1
    exact ⟨_, _, rfl, rfl, c, hQ ρ H _ .refl hR (by simpa only [RD] using r H)⟩
  · cases hf
theorem rb_I0 {g : Int -> Int -> V} {f : Int -> Int -> I} (h : ∀ i j H, RI K H (f i j) (g i j)) : RB K (rI0 g) (fI fun i j => some (f i j)) := by
  intro ρ H hd d e v u Q z hd' hR h1 h2 hf hQ
  unfold fI at hf
  split at hf
  · simp only [RD, RI] at h1 h2
    subst h1 h2
    cases hf
    exact ⟨_, _, rfl, rfl, hQ ρ H _ .refl hR (by simpa only [RD] using h _ _ H)⟩
  · cases hf
def fElse (f g : D -> D -> Hd -> Option (D × Hd)) : D -> D -> Hd -> Option (D × Hd) := fun d e hd => match f d e hd with
  | some z => some z
  | none => g d e hd
theorem rb_else {r r' : R2} {f g : D -> D -> Hd -> Option (D × Hd)} (h : RB K r f) (h' : RB K r' g) : RB K (fun x y H Q => r x y H Q ∨ r' x y H Q) (fElse f g) := by
  intro ρ H hd d e v u Q z hd' hR h1 h2 hf hQ
  unfold fElse at hf
  split at hf
  · next q => cases hf; exact .inl (h ρ H hd d e v u Q z hd' hR h1 h2 q hQ)
  · exact .inr (h' ρ H hd d e v u Q z hd' hR h1 h2 hf hQ)
abbrev gAdd : D -> D -> Hd -> Option (D × Hd) := fI fun i j => some (.int (i + j))
abbrev gSubt : D -> D -> Hd -> Option (D × Hd) := fI fun i j => some (.int (i - j))
theorem rb_add : RB K (rI0 fun i j => .int (i + j)) gAdd := rb_I0 fun _ _ _ => by simp [RI]
theorem rb_sub : RB K (rI0 fun i j => .int (i - j)) gSubt := rb_I0 fun _ _ _ => by simp [RI]
open Classical in
noncomputable abbrev gMul : D -> D -> Hd -> Option (D × Hd) := fI fun i j => if mulOk i j then some (.int (i * j)) else none
theorem rb_mul : RB K (rI CMul fun i j => .int (i * j)) gMul := rb_I fun i j z h => by
  split at h
  · next q => cases h; exact ⟨q, fun _ => by simp [RI]⟩
  · cases h
open Classical in
noncomputable abbrev gMod : D -> D -> Hd -> Option (D × Hd) := fI fun i j => if modOk j then some (.int (i % j)) else none
theorem rb_mod : RB K (rI (fun _ j => 0 < j) fun i j => .int (i % j)) gMod := rb_I fun i j z h => by
  split at h
  · next q => cases h; exact ⟨q, fun _ => by simp [RI]⟩
  · cases h
open Classical in
noncomputable abbrev gFdiv : D -> D -> Hd -> Option (D × Hd) := fI fun i j => if divOk j then some (.int (i / j)) else none
theorem rb_fdiv : RB K (rI CDiv fun i j => .int (i / j)) gFdiv := rb_I fun i j z h => by
  split at h
  · next q => cases h; exact ⟨q, fun _ => by simp [RI]⟩
  · cases h
open Classical in
noncomputable abbrev gPow : D -> D -> Hd -> Option (D × Hd) := fI fun i j => if powOk i j then some (.int (i ^ j.toNat)) else none
theorem rb_pow : RB K (rI CPow fun i j => .int (i ^ j.toNat)) gPow := rb_I fun i j z h => by
  split at h
  · next q => cases h; exact ⟨q, fun _ => by simp [RI]⟩
  · cases h
abbrev gLt : D -> D -> Hd -> Option (D × Hd) := fI fun i j => some (.bl (decide (i < j)))
abbrev gLe : D -> D -> Hd -> Option (D × Hd) := fI fun i j => some (.bl (decide (i <= j)))
abbrev gGt : D -> D -> Hd -> Option (D × Hd) := fI fun i j => some (.bl (decide (j < i)))
abbrev gGe : D -> D -> Hd -> Option (D × Hd) := fI fun i j => some (.bl (decide (j <= i)))
theorem rb_lt : RB K (rI0 fun i j => .bl (decide (i < j))) gLt := rb_I0 fun _ _ _ => by simp [RI]
theorem rb_le : RB K (rI0 fun i j => .bl (decide (i <= j))) gLe := rb_I0 fun _ _ _ => by simp [RI]
theorem rb_gt : RB K (rI0 fun i j => .bl (decide (j < i))) gGt := rb_I0 fun _ _ _ => by simp [RI]
theorem rb_ge : RB K (rI0 fun i j => .bl (decide (j <= i))) gGe := rb_I0 fun _ _ _ => by simp [RI]
def scI : I -> Option V
  | .non => some .non
  | .bl b => some (.bl b)
  | .int i => some (.int i)
  | .str x => some (.str x)
  | .tup _ => none
theorem scI_rd {i : I} {v w : V} (e : scI i = some w) (h : RI K H i v) : v = w := by
  cases i with
  | tup _ => simp [scI] at e
  | _ => simp only [scI, Option.some.injEq] at e; subst e; simpa only [RI] using h
def gEqS (neg : Bool) : D -> D -> Hd -> Option (D × Hd)
  | .im i, .im j, hd => match scI i, scI j with
    | some x, some y => if scal x y = true then some (.im (.bl (if neg then !decide (x = y) else decide (x = y))), hd) else none
    | _, _ => none
  | _, _, _ => none
theorem rb_eqS : RB K rEq (gEqS false) := by
  intro ρ H hd d e v u Q z hd' hR h1 h2 hf hQ
  unfold gEqS at hf
  split at hf
  · split at hf
    · next x y e1 e2 =>
      split at hf
      · next s =>
        cases hf
        simp only [RD] at h1 h2
        rw [scI_rd e1 h1, scI_rd e2 h2]
        exact ⟨s, hQ ρ H _ .refl hR (by simp [RD, RI])⟩
      · cases hf
    · cases hf
  · cases hf
theorem rb_neS : RB K rNe (gEqS true) := by
  intro ρ H hd d e v u Q z hd' hR h1 h2 hf hQ
  unfold gEqS at hf
  split at hf
  · split at hf
    · next x y e1 e2 =>
      split at hf
      · next s =>
        cases hf
        simp only [RD] at h1 h2
        rw [scI_rd e1 h1, scI_rd e2 h2]
        exact ⟨s, hQ ρ H _ .refl hR (by simp [RD, RI])⟩
      · cases hf
    · cases hf
  · cases hf
mutual
def I.py : I -> PyData
  | .non => .none
  | .bl b => .bool b
  | .int i => .int i
  | .str x => .str x
  | .tup ds => .tuple (I.pys ds)
def I.pys : List I -> List PyData
  | [] => []
  | d :: ds => I.py d :: I.pys ds
end
mutual
theorem RI.rep : ∀ {i : I} {v : V}, RI K H i v -> Rep K H i.py v
  | .non, v, h => by simpa only [RI, I.py, Rep] using h
  | .bl _, v, h => by simpa only [RI, I.py, Rep] using h
  | .int _, v, h => by simpa only [RI, I.py, Rep] using h
  | .str _, v, h => by simpa only [RI, I.py, Rep] using h
  | .tup ds, v, h => by
    simp only [RI] at h
    obtain ⟨a, xs, e, q, r⟩ := h
    simp only [I.py, Rep]
    exact ⟨a, xs, e, q, RIs.rep r⟩
theorem RIs.rep : ∀ {i : List I} {v : List V}, RIs K H i v -> RepAll K H (I.pys i) v
  | [], v, h => by simpa only [RIs, I.pys, RepAll] using h
  | d :: ds, v, h => by
    simp only [RIs] at h
    obtain ⟨x, r, e, q, z⟩ := h
    simp only [I.pys, RepAll]
    exact ⟨x, r, e, q.rep, RIs.rep z⟩
end
def pyD (hd : Hd) : D -> Option PyData
  | .im i => some i.py
  | .mu n => match hd[n]? with
    | some (.lst ds) => (allIm ds).map fun is => .list (I.pys is)
    | _ => none
  | .ro ns => some (.list (I.pys (ns.map I.int)))
  | _ => none
theorem pyD_rep {d : D} {v : V} {p : PyData} (hR : RH K ρ H hd) (h : RD K ρ H d v) (e : pyD hd d = some p) : Rep K H p v := by
  cases d with
  | im i => simp only [pyD, Option.some.injEq] at e; subst e; simp only [RD] at h; exact h.rep
  | mu n =>
    simp only [pyD] at e
    simp only [RD] at h
    obtain ⟨a, hn, rfl⟩ := h
    split at e
    · next q =>
      obtain ⟨is, e1, rfl⟩ := Option.map_eq_some_iff.mp e
      obtain ⟨xs, e2, e3⟩ := hR.lst hn q
      rw [allIm_eq e1] at e3
      simp only [Rep]
      exact ⟨a, xs, rfl, SqL.of e2, e3.is.rep⟩
    · cases e
  | ro ns =>
    simp only [pyD, Option.some.injEq] at e; subst e
    obtain ⟨a, xs, rfl, q, r⟩ := h.lst hR (hd := hd) (ds := ns.map fun n => .im (.int n)) rfl
    simp only [Rep]
    refine ⟨a, xs, rfl, q, RIs.rep (RDs.is (ρ := ρ) ?_)⟩
    rw [List.map_map]
    exact r
  | tm _ => simp [pyD] at e
def gEqP (neg : Bool) : D -> D -> Hd -> Option (D × Hd) := fun d e hd => match pyD hd d, pyD hd e with
  | some x, some y => if x.canLay0 = true /\ y.canLay0 = true /\ min x.depth y.depth <= 60 then some (.im (.bl (if neg then !PyData.eqv x y else PyData.eqv x y)), hd) else none
  | _, _ => none
theorem rb_eqP : RB K (rEqD K) (gEqP false) := by
  intro ρ H hd d e v u Q z hd' hR h1 h2 hf hQ
  unfold gEqP at hf
  split at hf
  · next e1 e2 =>
    split at hf
    · next c => cases hf; exact ⟨_, _, pyD_rep hR h1 e1, pyD_rep hR h2 e2, c.1, c.2.1, c.2.2, hQ ρ H _ .refl hR (by simp [RD, RI])⟩
    · cases hf
  · cases hf
theorem rb_neP : RB K (rNeD K) (gEqP true) := by
  intro ρ H hd d e v u Q z hd' hR h1 h2 hf hQ
  unfold gEqP at hf
  split at hf
  · next e1 e2 =>
    split at hf
    · next c => cases hf; exact ⟨_, _, pyD_rep hR h1 e1, pyD_rep hR h2 e2, c.1, c.2.1, c.2.2, hQ ρ H _ .refl hR (by simp [RD, RI])⟩
    · cases hf
  · cases hf
abbrev gEq := fElse (gEqS false) (gEqP false)
abbrev gNe := fElse (gEqS true) (gEqP true)
def gIx : D -> D -> Hd -> Option (D × Hd)
  | d, .im (.int i), hd => (seqView hd d).bind fun ds => (atI ds i).map (·, hd)
  | _, _, _ => none
theorem atI_len {α β : Type} {xs : List α} {ys : List β} {i : Int} {y : β} (h : xs.length = ys.length) (e : atI ys i = some y) : ∃ (j : Nat), ys[j]? = some y /\ ∀ x, xs[j]? = some x -> atI xs i = some x := by
  unfold atI at e
  obtain ⟨j, e1, e2⟩ := Option.bind_eq_some_iff.mp e
  exact ⟨j, e2, fun x q => by unfold atI; rw [h, e1]; exact q⟩
def rIxLT (K : PySem.W.Frag) : R2 := fun x y H Q => rIxL K x y H Q ∨ rIxT K x y H Q
theorem rb_ix : RB K (rIxLT K) gIx := by
  intro ρ H hd d e v u Q z hd' hR h1 h2 hf hQ
  unfold gIx at hf
  split at hf
  · obtain ⟨ds, e1, hf⟩ := Option.bind_eq_some_iff.mp hf
    obtain ⟨w, e2, e3⟩ := Option.map_eq_some_iff.mp hf
    cases e3
    obtain ⟨a, xs, rfl, q, r⟩ := h1.seq hR e1
    simp only [RD, RI] at h2
    subst h2
    obtain ⟨j, j1, j2⟩ := atI_len r.len e2
    obtain ⟨x, x1, x2⟩ := r.get j1
    rcases q with q | q
    · exact .inl ⟨a, xs, _, x, rfl, rfl, q, j2 x x1, hQ ρ H x .refl hR x2⟩
    · exact .inr ⟨a, xs, _, x, rfl, rfl, q, j2 x x1, hQ ρ H x .refl hR x2⟩
  · cases hf
def cutD (xs : List D) (lo hi : Option Int) : List D := (xs.drop (HT.sIx xs.length 0 lo)).take (HT.sIx xs.length xs.length hi - HT.sIx xs.length 0 lo)
theorem cutD_rd {ds : List D} {xs : List V} {lo hi : Option Int} (r : RDs K ρ H ds xs) : RDs K ρ H (cutD ds lo hi) (cutV xs lo hi) := by
  unfold cutD cutV
  rw [r.len]
  exact (r.drop _).take _
abbrev MO1 := Ls -> Hd -> Option (Option Int × Hd)
def RO1 (K : PySem.W.Frag) (t : TO) (m : MO1) : Prop := ∀ (ρ : List Addr) (σ : St) (H : Hp) (hd : Hd) (ls : Ls) (Q : Option Int -> Hp -> Prop) (d : Option Int) (hd' : Hd), RH K ρ H hd -> RL K ρ H ls σ -> m ls hd = some (d, hd') ->
  (∀ ρ' H', Ext ρ H ρ' H' -> RH K ρ' H' hd' -> Q d H') -> t σ H Q
def mNoPart : MO1 := fun _ hd => some (none, hd)
def mPart (m : ME) : MO1 := fun ls hd => (m ls hd).bind fun p => match p.1 with
  | .im (.int i) => some (some i, p.2)
  | _ => none
theorem ro_none : RO1 K tNoPart mNoPart := by
  intro ρ σ H hd ls Q d hd' hR hL hm hQ
  cases hm
  exact hQ ρ H .refl hR
theorem ro_some {t : TE} {m : ME} (h : RE K t m) : RO1 K (tPart t) (mPart m) := by
  intro ρ σ H hd ls Q d hd' hR hL hm hQ
  obtain ⟨⟨d1, h1⟩, e1, hm⟩ := Option.bind_eq_some_iff.mp hm
  dsimp only at hm
  split at hm
  · cases hm
    exact h ρ σ H hd ls _ _ _ hR hL e1 fun ρ1 H1 v x1 R1 r1 => ⟨_, by simpa only [RD, RI] using r1, hQ ρ1 H1 x1 R1⟩
  · cases hm
def mSlT (m : ME) (ml mh : MO1) : ME := fun ls hd => (m ls hd).bind fun p => (ml ls p.2).bind fun l => (mh ls l.2).bind fun h => (tupView p.1).bind fun ds =>
  if ¬ (HT.sIx ds.length 0 l.1 = 0 /\ HT.sIx ds.length ds.length h.1 = ds.length) then some (mkTup (cutD ds l.1 h.1), h.2) else none
def mSlL (m : ME) (ml mh : MO1) : MA := fun ls hd => (m ls hd).bind fun p => (ml ls p.2).bind fun l => (mh ls l.2).bind fun h => (lstView h.2 p.1).bind fun ds => some (cutD ds l.1 h.1, h.2)
theorem rn_slL {t : TE} {tl th : TO} {m : ME} {ml mh : MO1} (h : RE K t m) (hl : RO1 K tl ml) (hh : RO1 K th mh) : RN K (tSl (rSlL K) t tl th) (mSlL m ml mh) := by
  intro ρ σ H hd ls Q d hd' hR hL hm hQ
  obtain ⟨⟨d1, h1⟩, e1, hm⟩ := Option.bind_eq_some_iff.mp hm
  obtain ⟨⟨d2, h2⟩, e2, hm⟩ := Option.bind_eq_some_iff.mp hm
  obtain ⟨⟨d3, h3⟩, e3, hm⟩ := Option.bind_eq_some_iff.mp hm
  obtain ⟨ds, e4, hm⟩ := Option.bind_eq_some_iff.mp hm
  dsimp only at e2 e3 e4 hm
  cases hm
  refine h ρ σ H hd ls _ d1 h1 hR hL e1 fun ρ1 H1 v1 x1 R1 r1 => ?_
  refine hl ρ1 σ H1 h1 ls _ d2 h2 R1 (hL.ext hR x1) e2 fun ρ2 H2 x2 R2 => ?_
  refine hh ρ2 σ H2 h2 ls _ d3 _ R2 (hL.ext hR (x1.trans R1 x2)) e3 fun ρ3 H3 x3 R3 => ?_
  obtain ⟨a, xs, rfl, q, r⟩ := RD.lst R3 ((r1.ext R1 x2).ext R2 x3) e4
  refine ⟨a, xs, rfl, q, fun p hp => ?_⟩
  obtain ⟨R4, x4⟩ := R3.hid (ho := .lst (cutV xs d2 d3)) hp
  have x123 := (x1.trans R1 x2).trans R2 x3
  exact hQ ρ3 _ p _ (x123.trans R3 x4) R4 (x123.none hR hp R3) (R3.out hp) upd_same ((cutD_rd r).ext R3 x4)
def mCB (f : List D -> Hd -> Option (D × Hd)) (ma : MA) : ME := fun ls hd => (ma ls hd).bind fun p => f p.1 p.2
theorem re_cb {r : List V -> Hp -> VK -> Prop} {f : List D -> Hd -> Option (D × Hd)} {t : TA} {m : MA} (hr : RF K r f) (h : RA K t m) : RE K (tCB r t) (mCB f m) := by
  intro ρ σ H hd ls Q d hd' hR hL hm hQ
  obtain ⟨⟨d1, h1⟩, e1, hm⟩ := Option.bind_eq_some_iff.mp hm
  refine h ρ σ H hd ls _ d1 h1 hR hL e1 fun ρ1 H1 v1 x1 R1 r1 => ?_
  exact hr ρ1 H1 h1 d1 v1 Q d hd' R1 r1 hm fun ρ' H' w x2 R2 r2 => hQ ρ' H' w (x1.trans R1 x2) R2 r2
def f1 (tp : Bool) (g : List D -> Option D) : List D -> Hd -> Option (D × Hd)
  | [d], hd => ((if tp then seqView hd d else lstView hd d)).bind fun ds => (g ds).map (·, hd)
  | _, _ => none
theorem rf_1 {tp : Bool} {r : List V -> Hp -> VK -> Prop} {g : List D -> Option D} (h : RG K tp r g) : RF K r (f1 tp g) := by
  intro ρ H hd ds vs Q z hd' hR h1 hf hQ
  unfold f1 at hf
  split at hf
  · next d hd' =>
    obtain ⟨es, e1, hf⟩ := Option.bind_eq_some_iff.mp hf
    obtain ⟨w, e2, e3⟩ := Option.map_eq_some_iff.mp hf
    cases e3
    simp only [RDs] at h1
    obtain ⟨x, r, rfl, rx, rfl⟩ := h1
    cases tp with
    | true =>
      rw [if_pos rfl] at e1
      obtain ⟨a, xs, rfl, q, rr⟩ := rx.seq hR e1
      exact h ρ H hd a xs es Q z hR (q.imp id fun q => ⟨rfl, q⟩) rr e2 fun H' w x R r => hQ ρ H' w x R r
    | false =>
      rw [if_neg Bool.false_ne_true] at e1
      obtain ⟨a, xs, rfl, q, rr⟩ := rx.lst hR e1
      exact h ρ H hd a xs es Q z hR (.inl q) rr e2 fun H' w x R r => hQ ρ H' w x R r
  · cases hf
def mHid (g : List D -> Option D) (ml : MA) : ME := fun ls hd => (ml ls hd).bind fun p => (g p.1).map (·, p.2)
theorem re_hid {tp : Bool} {r : List V -> Hp -> VK -> Prop} {g : List D -> Option D} {t : TE} {m : MA} (hr : RG K tp r g) (h : RN K t m) : RE K (tCB r (tCons t tNil)) (mHid g m) := by
  intro ρ σ H hd ls Q d hd' hR hL hm hQ
  obtain ⟨⟨d1, h1⟩, e1, hm⟩ := Option.bind_eq_some_iff.mp hm
  obtain ⟨w, e2, e3⟩ := Option.map_eq_some_iff.mp hm
  cases e3
  refine h ρ σ H hd ls _ d1 _ hR hL e1 fun ρ1 H1 a xs x1 R1 na oa ea r1 => ?_
  exact hr ρ1 H1 _ a xs d1 Q d R1 (.inl (SqL.of ea)) r1 e2 fun H' w x R r => hQ ρ1 H' w (x1.trans R1 x) R r
def kLen (ds : List D) : Option D := some (.im (.int ds.length))
theorem rg_len : RG K true (rLen K) kLen := by
  intro ρ H hd a xs ds Q z hR q r e hQ
  cases e
  refine ⟨a, xs, rfl, q.imp id fun q => q.2, ?_⟩
  rw [r.len]
  exact hQ H _ .refl hR (by simp [RD, RI])
def kTuple (ds : List D) : Option D := some (mkTup ds)
theorem rg_tuple : RG K true (rTupleOf K) kTuple := by
  intro ρ H hd a xs ds Q z hR q r e hQ
  cases e
  refine ⟨a, xs, rfl, ?_⟩
  rcases q with q | ⟨_, q⟩
  · refine .inl ⟨q, fun p hp => ?_⟩
    obtain ⟨R2, x2⟩ := hR.hid (ho := .tup xs) hp
    exact hQ _ _ x2 R2 (rd_mkTup (SqT.of upd_same) (r.ext hR x2))
  · exact .inr ⟨q, hQ H _ .refl hR (rd_mkTup q r)⟩
def kSum (ds : List D) : Option D := (intsD ds).map fun ns => .im (.int ns.sum)
def rSum (K : PySem.W.Frag) : List V -> Hp -> VK -> Prop := fun xs H Q => rSumL K xs H Q ∨ rSumT K xs H Q
theorem rg_sum : RG K true (rSum K) kSum := by
  intro ρ H hd a xs ds Q z hR q r e hQ
  obtain ⟨ns, e1, rfl⟩ := Option.map_eq_some_iff.mp e
  rw [intsD_eq e1] at r
  have := rd_ints r
  subst this
  rcases q with q | ⟨_, q⟩
  · exact .inl ⟨a, ns, rfl, q, hQ H _ .refl hR (by simp [RD, RI])⟩
  · exact .inr ⟨a, ns, rfl, q, hQ H _ .refl hR (by simp [RD, RI])⟩
def kAll (ds : List D) : Option D := (blsD ds).map fun bs => .im (.bl (bs.all id))
def kAny (ds : List D) : Option D := (blsD ds).map fun bs => .im (.bl (bs.any id))
theorem rg_all : RG K false (rAll K) kAll := by
  intro ρ H hd a xs ds Q z hR q r e hQ
  obtain ⟨ns, e1, rfl⟩ := Option.map_eq_some_iff.mp e
  rw [blsD_eq e1] at r
  have := rd_bls r
  subst this
  rcases q with q | ⟨q, _⟩
  · exact ⟨a, ns, rfl, q, hQ H _ .refl hR (by simp [RD, RI])⟩
  · cases q
theorem rg_any : RG K false (rAny K) kAny := by
  intro ρ H hd a xs ds Q z hR q r e hQ
  obtain ⟨ns, e1, rfl⟩ := Option.map_eq_some_iff.mp e
  rw [blsD_eq e1] at r
  have := rd_bls r
  subst this
  rcases q with q | ⟨q, _⟩
  · exact ⟨a, ns, rfl, q, hQ H _ .refl hR (by simp [RD, RI])⟩
  · cases q
def maxI : List Int -> Int
  | [] => 0
  | [x] => x
  | x :: r => if maxI r > x then maxI r else x
def minI : List Int -> Int
  | [] => 0
  | [x] => x
  | x :: r => if minI r < x then minI r else x
theorem maxI_spec : ∀ {xs : List Int}, xs ≠ [] -> maxI xs ∈ xs /\ ∀ x ∈ xs, x <= maxI xs
  | [], h => absurd rfl h
  | [x], _ => by simp [maxI]
  | x :: y :: r, _ => by
    obtain ⟨h1, h2⟩ := maxI_spec (xs := y :: r) (by simp)
    rw [maxI]
    split
    · next h => exact ⟨List.mem_cons_of_mem _ h1, fun z m => by rcases List.mem_cons.mp m with rfl | m; omega; exact h2 z m⟩
    · next h => exact ⟨List.mem_cons_self, fun z m => by rcases List.mem_cons.mp m with rfl | m; omega; exact Int.le_trans (h2 z m) (by omega)⟩
    · simp
theorem minI_spec : ∀ {xs : List Int}, xs ≠ [] -> minI xs ∈ xs /\ ∀ x ∈ xs, minI xs <= x
  | [], h => absurd rfl h
  | [x], _ => by simp [minI]
  | x :: y :: r, _ => by
    obtain ⟨h1, h2⟩ := minI_spec (xs := y :: r) (by simp)
    rw [minI]
    split
    · next h => exact ⟨List.mem_cons_of_mem _ h1, fun z m => by rcases List.mem_cons.mp m with rfl | m; omega; exact h2 z m⟩
    · next h => exact ⟨List.mem_cons_self, fun z m => by rcases List.mem_cons.mp m with rfl | m; omega; exact Int.le_trans (by omega) (h2 z m)⟩
    · simp
def kMax (ds : List D) : Option D := (intsD ds).bind fun ns => if ns = [] then none else some (.im (.int (maxI ns)))
def kMin (ds : List D) : Option D := (intsD ds).bind fun ns => if ns = [] then none else some (.im (.int (minI ns)))
def rMax (K : PySem.W.Frag) : List V -> Hp -> VK -> Prop := fun xs H Q => rMaxL K xs H Q ∨ rMaxT K xs H Q
theorem len_pos {α : Type} {xs : List α} (h : xs ≠ []) : 0 < xs.length := by cases xs <;> simp_all
theorem rg_max : RG K true (rMax K) kMax := by
  intro ρ H hd a xs ds Q z hR q r e hQ
  obtain ⟨ns, e1, e⟩ := Option.bind_eq_some_iff.mp e
  split at e
  · cases e
  · next hn =>
    cases e
    rw [intsD_eq e1] at r
    have := rd_ints r
    subst this
    have u : ∀ M : Int, M ∈ ns -> (∀ x ∈ ns, x <= M) -> M = maxI ns := fun M m1 m2 => by
      obtain ⟨n1, n2⟩ := maxI_spec hn
      have := n2 M m1; have := m2 _ n1; omega
    rcases q with q | ⟨_, q⟩
    · exact .inl ⟨a, ns, rfl, q, len_pos hn, fun M m1 m2 => by rw [u M m1 m2]; exact hQ H _ .refl hR (by simp [RD, RI])⟩
    · exact .inr ⟨a, ns, rfl, q, len_pos hn, fun M m1 m2 => by rw [u M m1 m2]; exact hQ H _ .refl hR (by simp [RD, RI])⟩
theorem rg_min : RG K false (rMinL K) kMin := by
  intro ρ H hd a xs ds Q z hR q r e hQ
  obtain ⟨ns, e1, e⟩ := Option.bind_eq_some_iff.mp e
  split at e
  · cases e
  · next hn =>
    cases e
    rw [intsD_eq e1] at r
    have := rd_ints r
    subst this
    have u : ∀ M : Int, M ∈ ns -> (∀ x ∈ ns, M <= x) -> M = minI ns := fun M m1 m2 => by
      obtain ⟨n1, n2⟩ := minI_spec hn
      have := n2 M m1; have := m2 _ n1; omega
    rcases q with q | ⟨q, _⟩
    · exact ⟨a, ns, rfl, q, len_pos hn, fun M m1 m2 => by rw [u M m1 m2]; exact hQ H _ .refl hR (by simp [RD, RI])⟩
    · cases q
def fMax2 : List D -> Hd -> Option (D × Hd)
  | [.im (.int i), .im (.int j)], hd => some (.im (.int (if j > i then j else i)), hd)
  | _, _ => none
def fMin2 : List D -> Hd -> Option (D × Hd)
  | [.im (.int i), .im (.int j)], hd => some (.im (.int (if j < i then j else i)), hd)
  | _, _ => none
theorem rf_max2 : RF K (fun xs H Q => ∃ i j, xs = [.int i, .int j] /\ Q (.int (if j > i then j else i)) H) fMax2 := by
  intro ρ H hd ds vs Q z hd' hR h1 hf hQ
  unfold fMax2 at hf
  split at hf
  · cases hf
    simp only [RDs, RD, RI] at h1
    obtain ⟨x, r, rfl, rfl, y, r2, rfl, rfl, rfl⟩ := h1
    exact ⟨_, _, rfl, hQ ρ H _ .refl hR (by simp [RD, RI])⟩
  · cases hf
theorem rf_min2 : RF K (fun xs H Q => ∃ i j, xs = [.int i, .int j] /\ Q (.int (if j < i then j else i)) H) fMin2 := by
  intro ρ H hd ds vs Q z hd' hR h1 hf hQ
  unfold fMin2 at hf
  split at hf
  · cases hf
    simp only [RDs, RD, RI] at h1
    obtain ⟨x, r, rfl, rfl, y, r2, rfl, rfl, rfl⟩ := h1
    exact ⟨_, _, rfl, hQ ρ H _ .refl hR (by simp [RD, RI])⟩
  · cases hf
def fAbs : List D -> Hd -> Option (D × Hd)
  | [.im (.int i)], hd => some (.im (.int (if i < 0 then -i else i)), hd)
  | _, _ => none
theorem rf_abs : RF K (fun xs H Q => ∃ i, xs = [.int i] /\ Q (.int (if i < 0 then -i else i)) H) fAbs := by
  intro ρ H hd ds vs Q z hd' hR h1 hf hQ
  unfold fAbs at hf
  split at hf
  · cases hf
    simp only [RDs, RD, RI] at h1
    obtain ⟨x, r, rfl, rfl, rfl⟩ := h1
    exact ⟨_, rfl, hQ ρ H _ .refl hR (by simp [RD, RI])⟩
  · cases hf
def mList (ma : ME) : MA := fun ls hd => (ma ls hd).bind fun p => (seqView p.2 p.1).map (·, p.2)
def mListH (ml : MA) : MA := ml
theorem rn_listH {t : TE} {m : MA} (h : RN K t m) : RN K (tCB (rListOf K) (tCons t tNil)) (mListH m) := by
  intro ρ σ H hd ls Q d hd' hR hL hm hQ
  refine h ρ σ H hd ls _ d _ hR hL hm fun ρ1 H1 a xs x1 R1 na oa ea r1 => ?_
  refine ⟨a, xs, rfl, .inl (SqL.of ea), fun l hl => ?_⟩
  obtain ⟨R2, x2⟩ := R1.hid (ho := .lst xs) hl
  exact hQ ρ1 _ l xs (x1.trans R1 x2) R2 (x1.none hR hl R1) (R1.out hl) upd_same (r1.ext R1 x2)
def okRepr (d : PyData) : Prop := d.showable = true /\ d.hasDict = false /\ isDisplay d = true /\ d.depth <= 30 /\ d.shown.length <= sizeLine
def flatI : I -> Option V
  | .non => some .non
  | .bl b => some (.bl b)
  | .int i => some (.int i)
  | .str x => some (.str x)
  | .tup _ => none
def flatDs : List D -> Option (List V)
  | [] => some []
  | .im i :: r => (flatI i).bind fun v => (flatDs r).map (v :: ·)
  | _ :: _ => none
theorem flatI_rd {i : I} {v w : V} (e : flatI i = some w) (h : RI K H i v) : v = w /\ flatV w = true := by
  cases i with
  | tup _ => simp [flatI] at e
  | _ => simp only [flatI, Option.some.injEq] at e; subst e; exact ⟨by simpa only [RI] using h, rfl⟩
theorem flatDs_rd : ∀ {ds : List D} {vs ws : List V}, flatDs ds = some ws -> RDs K ρ H ds vs -> vs = ws /\ ws.all flatV = true
  | [], vs, ws, e, h => by simp [flatDs] at e; subst e; simp only [RDs] at h; subst h; exact ⟨rfl, rfl⟩
  | .im i :: r, vs, ws, e, h => by
    simp only [flatDs] at e
    obtain ⟨v, e1, e⟩ := Option.bind_eq_some_iff.mp e
    obtain ⟨us, e2, rfl⟩ := Option.map_eq_some_iff.mp e
    simp only [RDs, RD] at h
    obtain ⟨x, y, rfl, h1, h2⟩ := h
    obtain ⟨rfl, f1⟩ := flatI_rd e1 h1
    obtain ⟨rfl, f2⟩ := flatDs_rd e2 h2
    exact ⟨rfl, by simp [f1, f2]⟩
  | .mu _ :: _, _, _, e, _ => by simp [flatDs] at e
  | .tm _ :: _, _, _, e, _ => by simp [flatDs] at e
  | .ro _ :: _, _, _, e, _ => by simp [flatDs] at e
def gIn (neg : Bool) : D -> D -> Hd -> Option (D × Hd)
  | .im i, e, hd => (flatI i).bind fun x => (seqView hd e).bind fun ds => (flatDs ds).map fun xs => (.im (.bl (if neg then !inV x xs else inV x xs)), hd)
  | _, _, _ => none
theorem rb_in {neg : Bool} : RB K (rIn K neg) (gIn neg) := by
  intro ρ H hd d e v u Q z hd' hR h1 h2 hf hQ
  unfold gIn at hf
  split at hf
  · obtain ⟨x, e1, hf⟩ := Option.bind_eq_some_iff.mp hf
    obtain ⟨ds, e2, hf⟩ := Option.bind_eq_some_iff.mp hf
    obtain ⟨xs, e3, e4⟩ := Option.map_eq_some_iff.mp hf
    cases e4
    simp only [RD] at h1
    obtain ⟨rfl, f1⟩ := flatI_rd e1 h1
    obtain ⟨a, ys, rfl, q, r⟩ := h2.seq hR e2
    obtain ⟨rfl, f2⟩ := flatDs_rd e3 r
    exact ⟨a, ys, rfl, q, f1, f2, hQ ρ H _ .refl hR (by simp [RD, RI])⟩
  · cases hf
def mMt (f : D -> List D -> Hd -> Option (D × Hd)) (mo : ME) (ma : MA) : ME := fun ls hd => (mo ls hd).bind fun p => match lstView p.2 p.1 with
  | some _ => (ma ls p.2).bind fun q => f p.1 q.1 q.2
  | none => none
def RM (K : PySem.W.Frag) (r : V -> List V -> Hp -> VK -> Prop) (f : D -> List D -> Hd -> Option (D × Hd)) : Prop := ∀ (ρ : List Addr) (H : Hp) (hd : Hd) (d : D) (v : V) (ds : List D) (vs : List V) (Q : VK) (z : D) (hd' : Hd), RH K ρ H hd -> RD K ρ H d v -> RDs K ρ H ds vs -> f d ds hd = some (z, hd') ->
  (∀ ρ' H' w, Ext ρ H ρ' H' -> RH K ρ' H' hd' -> RD K ρ' H' z w -> Q w H') -> r v vs H Q
theorem re_mt {r : V -> List V -> Hp -> VK -> Prop} {f : D -> List D -> Hd -> Option (D × Hd)} {to : TE} {t : TA} {mo : ME} {ma : MA} (hr : RM K r f) (ho : RE K to mo) (ha : RA K t ma) : RE K (tBM K "list" r to t) (mMt f mo ma) := by
  intro ρ σ H hd ls Q d hd' hR hL hm hQ
  obtain ⟨⟨d1, h1⟩, e1, hm⟩ := Option.bind_eq_some_iff.mp hm
  dsimp only at hm
  split at hm
  · next e =>
    obtain ⟨⟨d2, h2⟩, e2, hm⟩ := Option.bind_eq_some_iff.mp hm
    refine ho ρ σ H hd ls _ d1 h1 hR hL e1 fun ρ1 H1 v x1 R1 r1 => ⟨?_, ?_⟩
    · obtain ⟨a, xs, rfl, q, _⟩ := r1.lst R1 e
      exact .inl ⟨rfl, xs, q⟩
    · exact ha ρ1 σ H1 h1 ls _ d2 h2 R1 (hL.ext hR x1) e2 fun ρ2 H2 vs x2 R2 r2 => hr ρ2 H2 h2 d1 v d2 vs Q d hd' R2 (r1.ext R1 x2) r2 hm fun ρ' H' w x3 R3 r3 => hQ ρ' H' w ((x1.trans R1 x2).trans R2 x3) R3 r3
  · cases hm
open Classical in
noncomputable def fAppend : D -> List D -> Hd -> Option (D × Hd)
  | .mu n, [x], hd => match hd[n]? with
    | some (.lst ds) => if fitsL ds.length then some (.im .non, hd.set n (.lst (ds ++ [x]))) else none
    | _ => none
  | _, _, _ => none
theorem rm_append : RM K rAppend fAppend := by
  intro ρ H hd d v ds vs Q z hd' hR h1 h2 hf hQ
  unfold fAppend at hf
  split at hf
  · split at hf
    · next q =>
      split at hf
      · next c =>
        cases hf
        simp only [RD] at h1
        obtain ⟨a, hn, rfl⟩ := h1
        simp only [RDs] at h2
        obtain ⟨x, r, rfl, rx, rfl⟩ := h2
        obtain ⟨xs, e1, e2⟩ := hR.lst hn q
        obtain ⟨R2, x2⟩ := hR.put hn (o := .lst (_ ++ [_])) (ho := .lst (xs ++ [x])) ⟨_, rfl, e2.app (.cons rx .nil)⟩
        exact ⟨a, xs, x, rfl, rfl, e1, by rw [e2.len]; exact c, hQ ρ _ _ x2 R2 (by simp [RD, RI])⟩
      · cases hf
    · cases hf
  · cases hf
end
end L2
namespace L2
open PySem PySem.Spec PyProof.Rows
section
variable {K : PySem.W.Frag} {ρ ρ' : List Addr} {H H' : Hp} {hd hd' : Hd}
theorem Lands.mono {E : Ends} : ∀ {f : Fl}, Lands K E ρ H f -> Lands K E ρ H f := id
def mNext : MS := fun ls hd => some (.nx ls, hd)
theorem rs_next : RS K tNext mNext := by
  intro ρ σ H hd ls E f hd' hR hL hm hQ
  cases hm
  exact hQ ρ H .refl hR σ hL
def mSeq (a b : MS) : MS := fun ls hd => (a ls hd).bind fun p => match p.1 with
  | .nx ls1 => b ls1 p.2
  | f => some (f, p.2)
theorem rs_seq {t u : TS} {a b : MS} (ha : RS K t a) (hb : RS K u b) : RS K (tSeq t u) (mSeq a b) := by
  intro ρ σ H hd ls E f hd' hR hL hm hQ
  obtain ⟨⟨f1, h1⟩, e1, hm⟩ := Option.bind_eq_some_iff.mp hm
  refine ha ρ σ H hd ls { E with nx := u E } f1 h1 hR hL e1 fun ρ1 H1 x1 R1 => ?_
  cases f1 with
  | nx ls1 =>
    intro σ1 L1
    exact hb ρ1 σ1 H1 h1 ls1 E f hd' R1 L1 hm fun ρ2 H2 x2 R2 => hQ ρ2 H2 (x1.trans R1 x2) R2
  | bk ls1 => cases hm; exact hQ ρ1 H1 x1 R1
  | ct ls1 => cases hm; exact hQ ρ1 H1 x1 R1
  | rt d => cases hm; exact hQ ρ1 H1 x1 R1
def mBreak : MS := fun ls hd => some (.bk ls, hd)
def mCont : MS := fun ls hd => some (.ct ls, hd)
def mDrop (m : ME) : MS := fun ls hd => (m ls hd).bind fun p => some (.nx ls, p.2)
theorem rs_drop {t : TE} {m : ME} (h : RE K t m) : RS K (tDrop t) (mDrop m) := by
  intro ρ σ H hd ls E f hd' hR hL hm hQ
  obtain ⟨⟨d1, h1⟩, e1, hm⟩ := Option.bind_eq_some_iff.mp hm
  cases hm
  exact h ρ σ H hd ls _ d1 _ hR hL e1 fun ρ1 H1 v x1 R1 r1 => hQ ρ1 H1 x1 R1 σ (hL.ext hR x1)
def mRet (m : ME) : MS := fun ls hd => (m ls hd).bind fun p => some (.rt p.1, p.2)
theorem rs_ret {t : TE} {m : ME} (h : RE K t m) : RS K (tRet t) (mRet m) := by
  intro ρ σ H hd ls E f hd' hR hL hm hQ
  obtain ⟨⟨d1, h1⟩, e1, hm⟩ := Option.bind_eq_some_iff.mp hm
  cases hm
  exact h ρ σ H hd ls _ d1 _ hR hL e1 fun ρ1 H1 v x1 R1 r1 => hQ ρ1 H1 x1 R1 v r1
def mRetN : MS := fun _ hd => some (.rt (.im .non), hd)
def mIfS (c : MT) (a b : MS) : MS := fun ls hd => (c ls hd).bind fun p => if p.1 = true then a ls p.2 else b ls p.2
theorem rs_if {tc : TT} {t u : TS} {c : MT} {a b : MS} (hc : RT K tc c) (ha : RS K t a) (hb : RS K u b) : RS K (tIfS tc t u) (mIfS c a b) := by
  intro ρ σ H hd ls E f hd' hR hL hm hQ
  obtain ⟨⟨d1, h1⟩, e1, hm⟩ := Option.bind_eq_some_iff.mp hm
  refine hc ρ σ H hd ls _ d1 h1 hR hL e1 fun ρ1 H1 x1 R1 => ?_
  cases d1 with
  | true =>
    rw [if_pos rfl] at hm ⊢
    exact ha ρ1 σ H1 h1 ls E f hd' R1 (hL.ext hR x1) hm fun ρ2 H2 x2 R2 => hQ ρ2 H2 (x1.trans R1 x2) R2
  | false =>
    rw [if_neg Bool.false_ne_true] at hm ⊢
    exact hb ρ1 σ H1 h1 ls E f hd' R1 (hL.ext hR x1) hm fun ρ2 H2 x2 R2 => hQ ρ2 H2 (x1.trans R1 x2) R2
def mNever : MS := fun _ _ => none
theorem rs_never : RS K tNever mNever := by
  intro ρ σ H hd ls E f hd' hR hL hm hQ
  cases hm
abbrev MG := D -> Ls -> Hd -> Option Ls
abbrev MGs := List D -> Ls -> Hd -> Option Ls
def RGt (K : PySem.W.Frag) (t : TG) (m : MG) : Prop := ∀ (ρ : List Addr) (σ : St) (H : Hp) (hd : Hd) (ls ls' : Ls) (d : D) (v : V) (Q : St -> Hp -> Prop), RH K ρ H hd -> RL K ρ H ls σ -> RD K ρ H d v -> m d ls hd = some ls' ->
  (∀ σ', RL K ρ H ls' σ' -> Q σ' H) -> t v σ H Q
def RGts (K : PySem.W.Frag) (t : TGs) (m : MGs) : Prop := ∀ (ρ : List Addr) (σ : St) (H : Hp) (hd : Hd) (ls ls' : Ls) (d : List D) (v : List V) (Q : St -> Hp -> Prop), RH K ρ H hd -> RL K ρ H ls σ -> RDs K ρ H d v -> m d ls hd = some ls' ->
  (∀ σ', RL K ρ H ls' σ' -> Q σ' H) -> t v σ H Q
theorem RL.set {ls : Ls} {σ : St} {d : D} {v : V} (h : RL K ρ H ls σ) (i : Nat) (r : RD K ρ H d v) : RL K ρ H (ls.set i (some d)) (σ.set i (some v)) := by
  refine ⟨by simp [h.len], fun j e q => ?_⟩
  by_cases hij : i = j
  · subst hij
    have hl : i < ls.length := by
      have := (List.getElem?_eq_some_iff.mp q).1
      simpa using this
    rw [List.getElem?_set_self hl] at q
    cases q
    exact ⟨v, by rw [List.getElem?_set_self (by rw [<- h.len]; exact hl)], r⟩
  · rw [List.getElem?_set_ne hij] at q
    obtain ⟨w, e1, e2⟩ := h.ob j e q
    exact ⟨w, by rw [List.getElem?_set_ne hij]; exact e1, e2⟩
def nName (i : Nat) : MG := fun d ls _ => some (ls.set i (some d))
theorem rg_name {i : Nat} : RGt K (gName i) (nName i) := by
  intro ρ σ H hd ls ls' d v Q hR hL hd hm hQ
  cases hm
  exact hQ _ (hL.set i hd)
def nNil : MGs := fun ds ls _ => match ds with
  | [] => some ls
  | _ => none
def nCons (m : MG) (r : MGs) : MGs := fun ds ls hd => match ds with
  | d :: es => (m d ls hd).bind fun ls1 => r es ls1 hd
  | [] => none
theorem rgs_nil : RGts K gNil nNil := by
  intro ρ σ H hd ls ls' d v Q hR hL hd hm hQ
  cases d with
  | nil =>
    simp only [RDs] at hd; subst hd
    cases hm
    exact ⟨rfl, hQ _ hL⟩
  | cons a b => cases hm
theorem rgs_cons {t : TG} {u : TGs} {m : MG} {r : MGs} (h : RGt K t m) (h' : RGts K u r) : RGts K (gCons t u) (nCons m r) := by
  intro ρ σ H hd ls ls' d v Q hR hL hd hm hQ
  cases d with
  | nil => cases hm
  | cons a b =>
    simp only [RDs] at hd
    obtain ⟨x, y, rfl, h1, h2⟩ := hd
    obtain ⟨ls1, e1, e2⟩ := Option.bind_eq_some_iff.mp hm
    exact ⟨x, y, rfl, h ρ σ H _ ls ls1 a x _ hR hL h1 e1 fun σ1 L1 => h' ρ σ1 H _ ls1 ls' b y Q hR L1 h2 e2 hQ⟩
def nTup (n : Nat) (r : MGs) : MG := fun d ls hd => (tupView d).bind fun ds => if ds.length = n then r ds ls hd else none
theorem rg_tup {n : Nat} {u : TGs} {r : MGs} (h' : RGts K u r) : RGt K (gTup K n u) (nTup n r) := by
  intro ρ σ H hd ls ls' d v Q hR hL hd hm hQ
  obtain ⟨ds, e1, hm⟩ := Option.bind_eq_some_iff.mp hm
  split at hm
  · next c =>
    obtain ⟨a, xs, rfl, q, rr⟩ := hd.tup e1
    exact ⟨a, xs, rfl, q, by rw [rr.len]; exact c, h' ρ σ H _ ls ls' ds xs Q hR hL rr hm hQ⟩
  · cases hm
def mAsg (m : ME) (g : MG) : MS := fun ls hd => (m ls hd).bind fun p => (g p.1 ls p.2).map fun ls' => (.nx ls', p.2)
theorem rs_asg {t : TE} {m : ME} {g : TG} {n : MG} (h : RE K t m) (hg : RGt K g n) : RS K (tAsg t g) (mAsg m n) := by
  intro ρ σ H hd ls E f hd' hR hL hm hQ
  obtain ⟨⟨d1, h1⟩, e1, hm⟩ := Option.bind_eq_some_iff.mp hm
  obtain ⟨ls', e2, e3⟩ := Option.map_eq_some_iff.mp hm
  cases e3
  exact h ρ σ H hd ls _ d1 _ hR hL e1 fun ρ1 H1 v x1 R1 r1 => hg ρ1 σ H1 _ ls ls' d1 v _ R1 (hL.ext hR x1) r1 e2 fun σ' L' => hQ ρ1 H1 x1 R1 σ' L'
abbrev mSet (i : Nat) (m : ME) : MS := mAsg m (nName i)
def mPar (ix : List Nat) (ma : MA) : MS := fun ls hd => (ma ls hd).bind fun p => if p.1.length = ix.length then some (.nx ((ix.zip p.1).foldl (fun l q => l.set q.1 (some q.2)) ls), p.2) else none
theorem rs_par {i j : Nat} {t : TA} {m : MA} (h : RA K t m) : RS K (tPar i j t) (mPar [i, j] m) := by
  intro ρ σ H hd ls E f hd' hR hL hm hQ
  obtain ⟨⟨d1, h1⟩, e1, hm⟩ := Option.bind_eq_some_iff.mp hm
  dsimp only at hm
  split at hm
  · next c =>
    cases hm
    refine h ρ σ H hd ls _ d1 _ hR hL e1 fun ρ1 H1 v x1 R1 r1 => ?_
    match d1, c, r1, hQ with
    | [a, b], _, r1, hQ =>
      simp only [RDs] at r1
      obtain ⟨x, r, rfl, ra, y, r2, rfl, rb, rfl⟩ := r1
      exact ⟨x, y, rfl, hQ ρ1 H1 x1 R1 _ (((hL.ext hR x1).set i ra).set j rb)⟩
  · cases hm
def mPar3 (i j k : Nat) (ma : MA) : MS := mPar [k, j, i] (fun ls hd => (ma ls hd).map fun p => (p.1.reverse, p.2))
abbrev Gd := List (Nat × List D)
abbrev MI := Ls -> Hd -> Option ((List D × Gd) × Hd)
def GOk (hd : Hd) (g : Gd) : Prop := ∀ p ∈ g, hd[p.1]? = some (.lst p.2)
@[simp] theorem gok_nil (hd : Hd) : GOk hd [] := fun p h => by cases h
def Yields (K : PySem.W.Frag) (ρ : List Addr) (H : Hp) (J : It) (ds : List D) (g : Gd) : Prop := ∀ (ρ2 : List Addr) (H2 : Hp) (hd2 : Hd), Ext ρ H ρ2 H2 -> RH K ρ2 H2 hd2 -> GOk hd2 g ->
  ∀ i : Nat, (i < ds.length -> J.go i H2 /\ ∀ x H3, J.yld i H2 x H3 -> ∃ ρ3 d, Ext ρ2 H2 ρ3 H3 /\ ρ3 = ρ2 /\ RH K ρ3 H3 hd2 /\ ds[i]? = some d /\ RD K ρ3 H3 d x) /\ (i = ds.length -> J.stop i H2)
def RIt (K : PySem.W.Frag) (t : TI) (m : MI) : Prop := ∀ (ρ : List Addr) (σ : St) (H : Hp) (hd : Hd) (ls : Ls) (Q : It -> Hp -> Prop) (d : List D) (g : Gd) (hd' : Hd), RH K ρ H hd -> RL K ρ H ls σ -> m ls hd = some ((d, g), hd') ->
  (∀ ρ' H' J, Ext ρ H ρ' H' -> RH K ρ' H' hd' -> GOk hd' g -> Yields K ρ' H' J d g -> Q J H') -> t σ H Q
theorem yields_tup {a : Addr} {xs : List V} {ds : List D} (hR : RH K ρ H hd) (q : SqT K H a xs) (r : RDs K ρ H ds xs) (g : Gd) : Yields K ρ H (Itt K a) ds g := by
  intro ρ2 H2 hd2 x2 R2 _ i
  have q2 := (x2.grow hR).sq q
  have r2 := r.ext hR x2
  have uniq : ∀ ys, SqT K H2 a ys -> True := fun _ _ => trivial
  refine ⟨fun hi => ?_, fun hi => ⟨xs, q2, by rw [r2.len, hi]; exact Nat.le_refl _⟩⟩
  have e : ds[i]? = some ds[i] := by simp [hi]
  obtain ⟨x, x1, x3⟩ := r2.get e
  refine ⟨⟨xs, x, q2, x1⟩, fun y H3 ⟨e3, hy⟩ => ?_⟩
  subst e3
  have := hy xs q2
  rw [x1] at this
  cases this
  exact ⟨ρ2, _, .refl, rfl, R2, e, x3⟩
def mItT (m : ME) : MI := fun ls hd => (m ls hd).bind fun p => (tupView p.1).map fun ds => ((ds, []), p.2)
theorem ri_tup {t : TE} {m : ME} (h : RE K t m) : RIt K (iTup K t) (mItT m) := by
  intro ρ σ H hd ls Q d g hd' hR hL hm hQ
  obtain ⟨⟨d1, h1⟩, e1, hm⟩ := Option.bind_eq_some_iff.mp hm
  obtain ⟨ds, e2, e3⟩ := Option.map_eq_some_iff.mp hm
  cases e3
  refine h ρ σ H hd ls _ d1 _ hR hL e1 fun ρ1 H1 v x1 R1 r1 => ?_
  obtain ⟨a, xs, rfl, q, r⟩ := r1.tup e2
  exact ⟨a, rfl, ⟨xs, q⟩, hQ ρ1 H1 _ x1 R1 (gok_nil _) (yields_tup R1 q r [])⟩
def mItL (m : ME) : MI := fun ls hd => (m ls hd).bind fun p => match p.1 with
  | .mu n => match p.2[n]? with
    | some (.lst ds) => some ((ds, [(n, ds)]), p.2)
    | _ => none
  | .ro ns => some ((ns.map fun n => .im (.int n), []), p.2)
  | _ => none
theorem ri_list {t : TE} {m : ME} (h : RE K t m) : RIt K (iList K t) (mItL m) := by
  intro ρ σ H hd ls Q d g hd' hR hL hm hQ
  obtain ⟨⟨d1, h1⟩, e1, hm⟩ := Option.bind_eq_some_iff.mp hm
  dsimp only at hm
  split at hm
  · next n =>
    split at hm
    · next ds q =>
      cases hm
      refine h ρ σ H hd ls _ _ _ hR hL e1 fun ρ1 H1 v x1 R1 r1 => ?_
      simp only [RD] at r1
      obtain ⟨a, hn, rfl⟩ := r1
      obtain ⟨xs, e2, e3⟩ := R1.lst hn q
      refine ⟨a, rfl, ⟨xs, SqL.of e2⟩, hQ ρ1 H1 _ x1 R1 (fun p z => by simp at z; subst z; exact q) ?_⟩
      intro ρ2 H2 hd2 x2 R2 G2 i
      have q2 := G2 (n, d) (by simp)
      have hn2 : ρ2[n]? = some a := by
        obtain ⟨r, rfl, _⟩ := x2.pre
        rw [List.getElem?_append_left (List.getElem?_eq_some_iff.mp hn).1]; exact hn
      obtain ⟨ys, e4, e5⟩ := R2.lst hn2 q2
      refine ⟨fun hi => ?_, fun hi => ⟨ys, SqL.of e4, by rw [e5.len, hi]; exact Nat.le_refl _⟩⟩
      have e : d[i]? = some d[i] := by simp [hi]
      obtain ⟨x, y1, y2⟩ := e5.get e
      refine ⟨⟨ys, x, SqL.of e4, y1⟩, fun y H3 ⟨e6, hy⟩ => ?_⟩
      subst e6
      have := hy ys (SqL.of e4)
      rw [y1] at this
      cases this
      exact ⟨ρ2, _, .refl, rfl, R2, e, y2⟩
    · cases hm
  · next ns =>
    cases hm
    refine h ρ σ H hd ls _ _ _ hR hL e1 fun ρ1 H1 v x1 R1 r1 => ?_
    simp only [RD] at r1
    obtain ⟨a, rfl, q⟩ := r1
    refine ⟨a, rfl, ⟨_, q.sq⟩, hQ ρ1 H1 _ x1 R1 (gok_nil _) ?_⟩
    intro ρ2 H2 hd2 x2 R2 G2 i
    have q2 := (q.grow (x2.grow R1)).sq
    have e5 : RDs K ρ2 H2 (ns.map fun n => .im (.int n)) (ns.map V.int) := ints_rd
    refine ⟨fun hi => ?_, fun hi => ⟨_, q2, by rw [e5.len, hi]; exact Nat.le_refl _⟩⟩
    have e : (ns.map fun n => D.im (.int n))[i]? = some ((ns.map fun n => D.im (.int n))[i]) := by simp [hi]
    obtain ⟨x, y1, y2⟩ := e5.get e
    refine ⟨⟨_, x, q2, y1⟩, fun y H3 ⟨e6, hy⟩ => ?_⟩
    subst e6
    have := hy _ q2
    rw [y1] at this
    cases this
    exact ⟨ρ2, _, .refl, rfl, R2, e, y2⟩
  · cases hm
def mItH (ml : MA) : MI := fun ls hd => (ml ls hd).map fun p => ((p.1, []), p.2)
def rangeD (lo : Int) : Nat -> List D
  | 0 => []
  | n + 1 => .im (.int lo) :: rangeD (lo + 1) n
@[simp] theorem rangeD_len (lo : Int) (n : Nat) : (rangeD lo n).length = n := by
  induction n generalizing lo with
  | zero => rfl
  | succ n ih => simp [rangeD, ih]
theorem rangeD_get {n : Nat} : ∀ {lo : Int} {i : Nat}, i < n -> (rangeD lo n)[i]? = some (.im (.int (lo + i))) := by
  induction n with
  | zero => intro lo i h; omega
  | succ n ih =>
    intro lo i h
    cases i with
    | zero => simp [rangeD]
    | succ i =>
      simp only [rangeD, List.getElem?_cons_succ]
      rw [ih (by omega)]
      congr 3
      push_cast
      omega
theorem yields_rng {lo : Int} {n : Nat} {g : Gd} : Yields K ρ H (Itr lo n) (rangeD lo n) g := by
  intro ρ2 H2 hd2 x2 R2 G2 i
  refine ⟨fun hi => ?_, fun hi => by rw [hi, rangeD_len]; exact Nat.le_refl _⟩
  rw [rangeD_len] at hi
  refine ⟨hi, fun x H3 ⟨e1, e2⟩ => ?_⟩
  subst e1 e2
  exact ⟨ρ2, _, .refl, rfl, R2, rangeD_get hi, by simp [RD, RI]⟩
open Classical in
noncomputable def mItR (m : MA) : MI := fun ls hd => (m ls hd).bind fun p => match p.1 with
  | [.im (.int j)] => if rng1 j then some ((rangeD 0 j.toNat, []), p.2) else none
  | _ => none
theorem ri_rng1 {t : TA} {m : MA} (h : RA K t m) : RIt K (iRng1 t) (mItR m) := by
  intro ρ σ H hd ls Q d g hd' hR hL hm hQ
  obtain ⟨⟨d1, h1⟩, e1, hm⟩ := Option.bind_eq_some_iff.mp hm
  dsimp only at hm
  split at hm
  · next j =>
    split at hm
    · next c =>
      cases hm
      refine h ρ σ H hd ls _ _ _ hR hL e1 fun ρ1 H1 v x1 R1 r1 => ?_
      simp only [RDs, RD, RI] at r1
      obtain ⟨x, r, rfl, rfl, rfl⟩ := r1
      exact ⟨j, rfl, c.1, c.2, hQ ρ1 H1 _ x1 R1 (gok_nil _) yields_rng⟩
    · cases hm
  · cases hm
open Classical in
noncomputable def mItR2 (m : MA) : MI := fun ls hd => (m ls hd).bind fun p => match p.1 with
  | [.im (.int i), .im (.int j)] => if rng2 i j then some ((rangeD i (j - i).toNat, []), p.2) else none
  | _ => none
open Classical in
noncomputable def mLoop (n : MG) (b : MS) (g : Gd) : List D -> Ls -> Hd -> Option (Fl × Hd)
  | [], ls, hd => some (.nx ls, hd)
  | d :: r, ls, hd => (n d ls hd).bind fun ls1 => (b ls1 hd).bind fun p => match p.1 with
    | .nx ls2 => if GOk p.2 g then mLoop n b g r ls2 p.2 else none
    | .ct ls2 => if GOk p.2 g then mLoop n b g r ls2 p.2 else none
    | .bk ls2 => some (.nx ls2, p.2)
    | .rt d => some (.rt d, p.2)
noncomputable def mFor (mi : MI) (n : MG) (b : MS) : MS := fun ls hd => (mi ls hd).bind fun p => mLoop n b p.1.2 p.1.1 ls p.2
theorem rs_for {wi : TI} {g : TG} {tb : TS} {mi : MI} {n : MG} {b : MS} (hi : RIt K wi mi) (hg : RGt K g n) (hb : RS K tb b) : RS K (tFor wi g tb) (mFor mi n b) := by
  intro ρ σ H hd ls E f hd' hR hL hm hQ
  obtain ⟨⟨⟨ds, gd⟩, h1⟩, e1, hm⟩ := Option.bind_eq_some_iff.mp hm
  refine hi ρ σ H hd ls _ ds gd h1 hR hL e1 fun ρ1 H1 J x1 R1 G1 Y => ?_
  dsimp only at hm
  refine ⟨fun i m σ2 H2 => m = ds.length - i /\ i <= ds.length /\ ∃ ρ2 ls2 hd2, Ext ρ1 H1 ρ2 H2 /\ RH K ρ2 H2 hd2 /\ RL K ρ2 H2 ls2 σ2 /\ GOk hd2 gd /\ mLoop n b gd (ds.drop i) ls2 hd2 = some (f, hd'),
    ⟨ds.length, by simp, Nat.zero_le _, ρ1, ls, h1, .refl, R1, hL.ext hR x1, G1, by simpa using hm⟩, ?_⟩
  rintro i m σ2 H2 ⟨rfl, hi, ρ2, ls2, hd2, x2, R2, L2', G2, hm2⟩
  obtain ⟨Y1, Y2⟩ := Y ρ2 H2 hd2 x2 R2 G2 i
  by_cases hlt : i < ds.length
  · obtain ⟨go, Y1⟩ := Y1 hlt
    have ed : ds.drop i = ds[i] :: ds.drop (i + 1) := List.drop_eq_getElem_cons hlt
    rw [ed] at hm2
    unfold mLoop at hm2
    obtain ⟨ls3, e3, hm2⟩ := Option.bind_eq_some_iff.mp hm2
    obtain ⟨⟨fl, hd4⟩, e4, hm2⟩ := Option.bind_eq_some_iff.mp hm2
    refine .inr ⟨go, fun σ' H' => ∃ ρ2 ls2 hd2, Ext ρ1 H1 ρ2 H' /\ RH K ρ2 H' hd2 /\ RL K ρ2 H' ls2 σ' /\ GOk hd2 gd /\ mLoop n b gd (ds.drop (i + 1)) ls2 hd2 = some (f, hd'), fun σ' H' z => ⟨ds.length - (i + 1), by omega, rfl, hlt, z⟩, fun x H3 y => ?_⟩
    obtain ⟨ρ3, d3, x3, rfl, R3, e5, r3⟩ := Y1 x H3 y
    have e6 : d3 = ds[i] := by
      have : ds[i]? = some ds[i] := by simp [hlt]
      rw [this] at e5; exact (Option.some.inj e5).symm
    subst e6
    refine hg ρ3 σ2 H3 hd2 ls2 ls3 _ x _ R3 (L2'.ext R2 x3) r3 e3 fun σ4 L4 => ?_
    refine hb ρ3 σ4 H3 hd2 ls3 _ fl hd4 R3 L4 e4 fun ρ5 H5 x5 R5 => ?_
    have x15 := (x2.trans R2 x3).trans R3 x5
    cases fl with
    | nx ls5 =>
      intro σ5 L5
      dsimp only at hm2
      split at hm2
      · next c => exact ⟨ρ5, ls5, hd4, x15, R5, L5, c, hm2⟩
      · cases hm2
    | ct ls5 =>
      intro σ5 L5
      dsimp only at hm2
      split at hm2
      · next c => exact ⟨ρ5, ls5, hd4, x15, R5, L5, c, hm2⟩
      · cases hm2
    | bk ls5 =>
      intro σ5 L5
      cases hm2
      exact hQ ρ5 H5 (x1.trans R1 x15) R5 σ5 L5
    | rt d5 =>
      intro v5 r5
      cases hm2
      exact hQ ρ5 H5 (x1.trans R1 x15) R5 v5 r5
  · have e : i = ds.length := by omega
    subst e
    rw [List.drop_length] at hm2
    unfold mLoop at hm2
    cases hm2
    exact .inl ⟨Y2 rfl, hQ ρ2 H2 (x1.trans R1 x2) R2 σ2 L2'⟩
open Classical in
noncomputable def mCompGo (n : MG) (c : MT) (m : ME) (g : Gd) : List D -> Ls -> Hd -> Option (List D × Hd)
  | [], _, hd => some ([], hd)
  | d :: r, ls, hd => (n d ls hd).bind fun ls1 => (c ls1 hd).bind fun p => if p.1 = true then (m ls1 p.2).bind fun q => if GOk q.2 g then (mCompGo n c m g r ls1 q.2).map fun z => (q.1 :: z.1, z.2) else none else if GOk p.2 g then mCompGo n c m g r ls1 p.2 else none
def captD (k : Nat) (ix : List Nat) (ls : Ls) : Ls := List.replicate k none ++ ix.map fun i => (ls[i]?).join
open Classical in
noncomputable def mComp (k : Nat) (ix : List Nat) (mi : MI) (n : MG) (c : MT) (m : ME) : MA := fun ls hd => (mi ls hd).bind fun p => if fits p.1.1.length then mCompGo n c m p.1.2 p.1.1 (captD k ix ls) p.2 else none
theorem capt_rl {k : Nat} {ix : List Nat} {ls : Ls} {σ : St} (h : RL K ρ H ls σ) : RL K ρ H (captD k ix ls) (capt k ix σ) := by
  refine ⟨by simp [captD, capt], fun i d e => ?_⟩
  unfold captD at e
  unfold capt
  by_cases hi : i < k
  · rw [List.getElem?_append_left (by simpa using hi), List.getElem?_replicate] at e
    split at e <;> cases e
  · have hi' : k <= i := Nat.not_lt.mp hi
    rw [List.getElem?_append_right (by simpa using hi'), List.length_replicate, List.getElem?_map] at e ⊢
    cases q : ix[i - k]? with
    | none => rw [q] at e; cases e
    | some j =>
      rw [q] at e
      simp only [Option.map_some, Option.some.injEq] at e ⊢
      have e5 : ls[j]? = some (some d) := by
        cases w : ls[j]? with
        | none => rw [w] at e; cases e
        | some z => rw [w] at e; simpa using e
      obtain ⟨v, e6, e7⟩ := h.ob j d e5
      exact ⟨v, by rw [e6]; rfl, e7⟩
theorem rn_comp {k : Nat} {ix : List Nat} {wi : TI} {g : TG} {tf : TT} {te : TE} {mi : MI} {n : MG} {c : MT} {m : ME} (hi : RIt K wi mi) (hg : RGt K g n) (hf : RT K tf c) (he : RE K te m) : RN K (tComp k ix wi g tf te) (mComp k ix mi n c m) := by
  intro ρ σ H hd ls Q out hd' hR hL hm hQ
  obtain ⟨⟨⟨ds, gd⟩, h1⟩, e1, hm⟩ := Option.bind_eq_some_iff.mp hm
  dsimp only at hm
  split at hm
  · next hlen =>
    have hlen : ds.length <= sizeLine := hlen
    refine hi ρ σ H hd ls _ ds gd h1 hR hL e1 fun ρ1 H1 J x1 R1 G1 Y => ?_
    intro Da hDa
    obtain ⟨R1', x1'⟩ := R1.hid (ho := .lst []) hDa
    have oD : Da ∉ ρ1 := R1.out hDa
    have nD : H Da = none := x1.none hR hDa R1
    refine ⟨fun i mm σ2 ys H2 => mm = ds.length - i /\ i <= ds.length /\ ∃ ρ2 ls2 hd2 es rest, Ext ρ1 (upd H1 Da (.lst ys)) ρ2 H2 /\ Ext ρ1 H1 ρ2 H2 /\ Da ∉ ρ2 /\ H2 Da = some (.lst ys) /\ RH K ρ2 H2 hd2 /\ RL K ρ2 H2 ls2 σ2 /\ RDs K ρ2 H2 es ys /\ es.length <= i /\ GOk hd2 gd /\ mCompGo n c m gd (ds.drop i) ls2 hd2 = some (rest, hd') /\ out = es ++ rest,
      ⟨ds.length, by simp, Nat.zero_le _, ρ1, _, h1, [], out, .refl, x1', oD, upd_same, R1', (capt_rl ((hL.ext hR x1).ext R1 x1')), .nil, Nat.le_refl _, G1, by simpa using hm, rfl⟩, ?_⟩
    rintro i mm σ2 ys H2 ⟨rfl, hi, ρ2, ls2, hd2, es, rest, x2', x2, oD2, hD2, R2, L2', r2, hle, G2, hm2, rfl⟩
    refine ⟨hD2, ?_⟩
    obtain ⟨Y1, Y2⟩ := Y ρ2 H2 hd2 x2 R2 G2 i
    by_cases hlt : i < ds.length
    · obtain ⟨go, Y1⟩ := Y1 hlt
      have ed : ds.drop i = ds[i] :: ds.drop (i + 1) := List.drop_eq_getElem_cons hlt
      rw [ed] at hm2
      unfold mCompGo at hm2
      obtain ⟨ls3, e3, hm2⟩ := Option.bind_eq_some_iff.mp hm2
      obtain ⟨⟨bb, hd4⟩, e4, hm2⟩ := Option.bind_eq_some_iff.mp hm2
      refine .inr ⟨go, Nat.lt_of_le_of_lt (by rw [r2.len]; exact hle) (by omega), fun σ' ys' H' => ∃ ρ2 ls2 hd2 es' rest', Ext ρ1 (upd H1 Da (.lst ys')) ρ2 H' /\ Ext ρ1 H1 ρ2 H' /\ Da ∉ ρ2 /\ H' Da = some (.lst ys') /\ RH K ρ2 H' hd2 /\ RL K ρ2 H' ls2 σ' /\ RDs K ρ2 H' es' ys' /\ es'.length <= i + 1 /\ GOk hd2 gd /\ mCompGo n c m gd (ds.drop (i + 1)) ls2 hd2 = some (rest', hd') /\ es ++ rest = es' ++ rest', fun σ' ys' H' z => ⟨ds.length - (i + 1), by omega, rfl, hlt, z⟩, fun x H3 y => ?_⟩
      obtain ⟨ρ3, d3, x3, rfl, R3, e5, r3⟩ := Y1 x H3 y
      have e6 : d3 = ds[i] := by
        have : ds[i]? = some ds[i] := by simp [hlt]
        rw [this] at e5; exact (Option.some.inj e5).symm
      subst e6
      refine hg ρ3 σ2 H3 hd2 ls2 ls3 _ x _ R3 (L2'.ext R2 x3) r3 e3 fun σ4 L4 => ?_
      refine hf ρ3 σ4 H3 hd2 ls3 _ bb hd4 R3 L4 e4 fun ρ5 H5 x5 R5 => ?_
      have hD5 : H5 Da = some (.lst ys) := x5.keep Da _ (x3.keep Da _ hD2 oD2) oD2
      have out5 : Da ∉ ρ5 := by
        obtain ⟨r, rfl, fr⟩ := x5.pre
        intro z
        rcases List.mem_append.mp z with z | z
        · exact oD2 z
        · have := fr _ z
          rw [x3.keep Da _ hD2 oD2] at this; cases this
      cases bb with
      | false =>
        rw [if_neg Bool.false_ne_true] at hm2 ⊢
        have y25 := x3.trans R3 x5
        split at hm2
        · next g5 => exact ⟨ρ5, ls3, hd4, es, rest, x2'.trans R2 y25, (x2.trans R2 y25), out5, hD5, R5, L4.ext R3 x5, (r2.ext R2 y25), by omega, g5, hm2, rfl⟩
        · cases hm2
      | true =>
        rw [if_pos rfl] at hm2 ⊢
        obtain ⟨⟨z, hd6⟩, e6, hm2⟩ := Option.bind_eq_some_iff.mp hm2
        obtain ⟨g6, hm2⟩ : GOk hd6 gd /\ ((mCompGo n c m gd (ds.drop (i + 1)) ls3 hd6).map fun q => (z :: q.1, q.2)) = some (rest, hd') := by
          dsimp only at hm2
          split at hm2
          · next g6 => exact ⟨g6, hm2⟩
          · cases hm2
        obtain ⟨⟨zs, hd7⟩, e7, e8⟩ := Option.map_eq_some_iff.mp hm2
        cases e8
        refine he ρ5 σ4 H5 hd4 ls3 _ z hd6 R5 (L4.ext R3 x5) e6 fun ρ6 H6 v6 x6 R6 r6 => ?_
        have hD6 : H6 Da = some (.lst ys) := x6.keep Da _ hD5 out5
        have out6 : Da ∉ ρ6 := by
          obtain ⟨r, rfl, fr⟩ := x6.pre
          intro z
          rcases List.mem_append.mp z with z | z
          · exact out5 z
          · have := fr _ z
            rw [hD5] at this; cases this
        refine ⟨hD6, ?_⟩
        have y26 := (x3.trans R3 x5).trans R5 x6
        have gr : Grow H6 (upd H6 Da (.lst (ys ++ [v6]))) := Grow.refl.put (.lst hD6)
        have R7 := R6.hput (ho := .lst (ys ++ [v6])) out6 hD6
        have x12 := x2.trans R2 y26
        have ext7 : Ext ρ1 H1 ρ6 (upd H6 Da (.lst (ys ++ [v6]))) := ⟨x12.pre, fun b o q nb => by
          have : b ≠ Da := ne_of_none q hDa
          rw [upd_ne this]; exact x12.keep b o q nb⟩
        have ext8 : Ext ρ1 (upd H1 Da (.lst (ys ++ [v6]))) ρ6 (upd H6 Da (.lst (ys ++ [v6]))) := by
          obtain ⟨r, er, fr⟩ := x12.pre
          refine ⟨⟨r, er, fun b hb => ?_⟩, fun b o q nb => ?_⟩
          · have : b ≠ Da := fun z => out6 (by rw [er, <- z]; exact List.mem_append_right _ hb)
            rw [upd_ne this]; exact fr b hb
          · by_cases hb : b = Da
            · subst hb; rw [upd_same] at q ⊢; exact q
            · rw [upd_ne hb] at q ⊢; exact x12.keep b o q nb
        refine ⟨ρ6, ls3, hd6, es ++ [z], zs, ext8, ext7, out6, upd_same, R7, ?_, ?_, by simp; omega, g6, e7, by simp⟩
        · have L6 := (L4.ext R3 x5).ext R5 x6
          exact ⟨L6.len, fun i d e => let ⟨v, a, b⟩ := L6.ob i d e; ⟨v, a, by simpa using b.mono gr []⟩⟩
        · have := ((r2.ext R2 y26).app (.cons r6 .nil)).mono gr []
          simpa using this
    · have e : i = ds.length := by omega
      subst e
      rw [List.drop_length] at hm2
      unfold mCompGo at hm2
      cases hm2
      refine .inl ⟨Y2 rfl, ?_⟩
      exact hQ ρ2 H2 Da ys (x1.trans R1 x2) R2 nD oD2 hD2 (by simpa using r2)
  · cases hm
end
end L2
namespace L2
open PySem PySem.Spec PyProof.Rows
mutual
def clD (w : Nat) : D -> Bool
  | .im _ => true
  | .mu n => decide (n < w)
  | .tm ds => clDs w ds
  | .ro _ => true
def clDs (w : Nat) : List D -> Bool
  | [] => true
  | d :: ds => clD w d && clDs w ds
end
def clKs (w : Nat) : List (Key × D) -> Bool
  | [] => true
  | d :: ds => clD w d.2 && clKs w ds
def clO (w : Nat) : MO -> Bool
  | .lst ds => clDs w ds
  | .dic ds => clKs w ds
section
variable {K : PySem.W.Frag} {ρ ρ' ρ1 : List Addr} {H H' H1 : Hp} {hd hd' h1 h2 : Hd}
@[simp] theorem clDs_app {w : Nat} (a b : List D) : clDs w (a ++ b) = (clDs w a && clDs w b) := by induction a <;> simp_all [clDs, Bool.and_assoc]
mutual
theorem RD.take (w : Nat) : ∀ {d : D} {v : V}, RD K ρ H d v -> clD w d = true -> RD K (ρ.take w) H d v
  | .im i, v, h, _ => by simp only [RD] at h ⊢; exact h
  | .mu n, v, h, c => by
    simp only [RD] at h ⊢
    obtain ⟨a, e, q⟩ := h
    exact ⟨a, by rw [List.getElem?_take_of_lt (by simpa [clD] using c)]; exact e, q⟩
  | .tm ds, v, h, c => by
    simp only [RD] at h ⊢
    obtain ⟨a, xs, e, q, z⟩ := h
    exact ⟨a, xs, e, q, RDs.take' w z (by simpa [clD] using c)⟩
  | .ro ns, v, h, c => by simp only [RD] at h ⊢; exact h
theorem RDs.take' (w : Nat) : ∀ {d : List D} {v : List V}, RDs K ρ H d v -> clDs w d = true -> RDs K (ρ.take w) H d v
  | [], v, h, _ => by simpa only [RDs] using h
  | d :: ds, v, h, c => by
    simp only [RDs] at h ⊢
    obtain ⟨x, r', e, q, z⟩ := h
    have c : clD w d = true /\ clDs w ds = true := by simpa [clDs] using c
    exact ⟨x, r', e, q.take w c.1, RDs.take' w z c.2⟩
end
theorem RKs.take (w : Nat) : ∀ {d : List (Key × D)} {v : List (Key × V)}, RKs K ρ H d v -> clKs w d = true -> RKs K (ρ.take w) H d v
  | [], v, h, _ => by simpa only [RKs] using h
  | d :: ds, v, h, c => by
    simp only [RKs] at h ⊢
    obtain ⟨x, r', e, q1, q, z⟩ := h
    have c : clD w d.2 = true /\ clKs w ds = true := by simpa [clKs] using c
    exact ⟨x, r', e, q1, q.take w c.1, RKs.take w z c.2⟩
theorem RC.take (w : Nat) {o : MO} {ho : HO} (h : RC K ρ H o ho) (c : clO w o = true) : RC K (ρ.take w) H o ho := by
  cases o with
  | lst ds => obtain ⟨xs, e, q⟩ := h; exact ⟨xs, e, q.take' w c⟩
  | dic ds => obtain ⟨xs, e, q⟩ := h; exact ⟨xs, e, q.take w c⟩
theorem RH.take (h : RH K ρ H hd) (w : Nat) (c : (hd.take w).all (clO w) = true) : RH K (ρ.take w) H (hd.take w) := by
  refine ⟨by simp [h.len], h.nd.sublist (List.take_sublist _ _), fun n o a e1 e2 => ?_⟩
  have co := List.all_eq_true.mp c o (List.mem_of_getElem? e1)
  have hn : n < w := by
    have := (List.getElem?_eq_some_iff.mp e1).1
    simp at this; omega
  rw [List.getElem?_take_of_lt hn] at e1 e2
  obtain ⟨ho, q1, q2⟩ := h.ob n o a e1 e2
  exact ⟨ho, q1, q2.take w co⟩
theorem RH.back (R1 : RH K ρ1 H1 h1) {w : Nat} (hw : w <= h1.length) (c1 : (h1.take w).all (clO w) = true) (x : Ext (ρ1.take w) H1 ρ' H') (R' : RH K ρ' H' h2) (c : (h2.take w).all (clO w) = true) :
    RH K ρ1 H' (h2.take w ++ h1.drop w) /\ Ext ρ1 H1 ρ1 H' /\ ρ'.take w = ρ1.take w := by
  obtain ⟨r, rfl, fr⟩ := x.pre
  have lw : (ρ1.take w).length = w := by rw [List.length_take, R1.len]; omega
  have l2 : w <= h2.length := by rw [<- R'.len]; simp [lw]
  have tk : (ρ1.take w ++ r).take w = ρ1.take w := by rw [List.take_append_of_le_length (by omega), List.take_take]; simp
  refine ⟨⟨?_, R1.nd, fun n o a e1 e2 => ?_⟩, ⟨⟨[], by simp, by simp⟩, fun b o q nb => x.keep b o q fun m => nb (List.mem_of_mem_take m)⟩, tk⟩
  · rw [List.length_append, List.length_take, List.length_drop, R1.len]; omega
  · by_cases hn : n < w
    · rw [List.getElem?_append_left (by rw [List.length_take]; omega), List.getElem?_take_of_lt hn] at e1
      have e3 : (ρ1.take w ++ r)[n]? = some a := by
        rw [List.getElem?_append_left (by omega), List.getElem?_take_of_lt hn]; exact e2
      obtain ⟨ho, q1, q2⟩ := R'.ob n o a e1 e3
      have co := List.all_eq_true.mp c o (by
        have : (h2.take w)[n]? = some o := by rw [List.getElem?_take_of_lt hn]; exact e1
        exact List.mem_of_getElem? this)
      have q3 := q2.take w co
      rw [tk] at q3
      have q4 := q3.mono (Grow.refl (H := H')) (ρ1.drop w)
      rw [List.take_append_drop] at q4
      exact ⟨ho, q1, q4⟩
    · rw [List.getElem?_append_right (by rw [List.length_take]; omega), List.length_take, List.getElem?_drop] at e1
      have e1 : h1[n]? = some o := by
        have : w + (n - min w h2.length) = n := by omega
        rw [this] at e1; exact e1
      obtain ⟨ho, q1, q2⟩ := R1.ob n o a e1 e2
      have out : a ∉ ρ1.take w := fun m => by
        obtain ⟨k, hk⟩ := List.mem_iff_getElem?.mp m
        have kw : k < w := by
          have := (List.getElem?_eq_some_iff.mp hk).1
          rw [lw] at this; exact this
        rw [List.getElem?_take_of_lt kw] at hk
        have := (List.getElem?_inj (List.getElem?_eq_some_iff.mp e2).1 R1.nd).mp (e2.trans hk.symm)
        omega
      have gr := x.grow (R1.take w c1)
      exact ⟨ho, x.keep a ho q1 out, by simpa using q2.mono gr []⟩
def spF (K : PySem.W.Frag) (k : Nat) (F : List D -> Hd -> Option (D × Hd)) : Sp := fun vs H Q _ => vs.length = k /\ ∃ (ρ : List Addr) (hd : Hd) (ds : List D) (d : D) (hd' : Hd), RH K ρ H hd /\ RDs K ρ H ds vs /\ F ds hd = some (d, hd') /\
  ∀ ρ' H' v, Ext ρ H ρ' H' -> RH K ρ' H' hd' -> RD K ρ' H' d v -> Q v H'
def mkF (k n : Nat) (m : MS) : List D -> Hd -> Option (D × Hd) := fun ds hd => if ds.length = k then (match m (ds.map some ++ List.replicate (n - k) none) hd with
  | some (.rt d, hd') => some (d, hd')
  | some (.nx _, hd') => some (.im .non, hd')
  | _ => none) else none
theorem rl_start {N : List Str} : ∀ {ds : List D} {vs : List V}, RDs K ρ H ds vs -> RL K ρ H (ds.map some ++ List.replicate (N.length - ds.length) none) (start N vs) := by
  intro ds vs r
  have hl := r.len
  refine ⟨by simp [start, hl], fun i d e => ?_⟩
  unfold start
  by_cases hi : i < ds.length
  · rw [List.getElem?_append_left (by simpa using hi), List.getElem?_map] at e
    have e' : ds[i]? = some d := by
      cases q : ds[i]? with
      | none => rw [q] at e; cases e
      | some z => rw [q] at e; simpa using e
    obtain ⟨x, x1, x2⟩ := r.get e'
    exact ⟨x, by rw [List.getElem?_append_left (by rw [List.length_map, hl]; exact hi), List.getElem?_map, x1]; rfl, x2⟩
  · rw [List.getElem?_append_right (by simpa using Nat.not_lt.mp hi), List.getElem?_replicate] at e
    split at e <;> cases e
theorem sp_body {k : Nat} {N : List Str} {m : MS} {t : TS} (h : RS K t m) {vs : List V} {H : Hp} {Q : VK} {E : XK} (s : spF K k (mkF k N.length m) vs H Q E) : t { nx := fun _ H' => Q .non H', rt := Q } (start N vs) H := by
  obtain ⟨hk, ρ, hd, ds, d, hd', hR, hr, hF, hQ⟩ := s
  unfold mkF at hF
  split at hF
  · next hl =>
    subst hl
    split at hF
    · next q =>
      cases hF
      exact h ρ _ H hd _ _ _ _ hR (rl_start hr) q fun ρ' H' x R v r => hQ ρ' H' v x R r
    · next q =>
      cases hF
      exact h ρ _ H hd _ _ _ _ hR (rl_start hr) q fun ρ' H' x R σ L => hQ ρ' H' .non x R (by simp [RD, RI])
    · cases hF
  · cases hF
def mCallG (F : List D -> Hd -> Option (D × Hd)) (ma : MA) : ME := fun ls hd => (ma ls hd).bind fun p => F p.1 p.2
theorem re_callG {k : Nat} {F : List D -> Hd -> Option (D × Hd)} {t : TA} {m : MA} (h : RA K t m) (hk : ∀ ds hd z, F ds hd = some z -> ds.length = k) : RE K (tCall (spF K k F) [] E0 t) (mCallG F m) := by
  intro ρ σ H hd ls Q d hd' hR hL hm hQ
  obtain ⟨⟨d1, h1⟩, e1, hm⟩ := Option.bind_eq_some_iff.mp hm
  refine h ρ σ H hd ls _ d1 h1 hR hL e1 fun ρ1 H1 v1 x1 R1 r1 => ?_
  rw [List.append_nil]
  exact ⟨by rw [r1.len]; exact hk _ _ _ hm, ρ1, h1, d1, d, hd', R1, r1, hm, fun ρ' H' w x2 R2 r2 => hQ ρ' H' w (x1.trans R1 x2) R2 r2⟩
theorem mkF_len {k n : Nat} {m : MS} : ∀ ds hd z, mkF k n m ds hd = some z -> ds.length = k := fun ds hd z h => by
  unfold mkF at h
  split at h
  · next e => exact e
  · cases h
def fin (w : Nat) (d : D) (h2 rest : Hd) : Option (D × Hd) := if (h2.take w).all (clO w) = true then (match d with
    | .mu k => if k < w then some (.mu k, h2.take w ++ rest) else (match h2[k]? with
      | some (.lst ds) => if clDs w ds = true then some (.mu (w + rest.length), h2.take w ++ rest ++ [.lst ds]) else none
      | _ => none)
    | d => if clD w d = true then some (d, h2.take w ++ rest) else none) else none
def mCallW (w : Nat) (F : List D -> Hd -> Option (D × Hd)) (ma : MA) : ME := fun ls hd => (ma ls hd).bind fun p =>
  if w <= p.2.length /\ clDs w p.1 = true /\ (p.2.take w).all (clO w) = true then (F p.1 (p.2.take w)).bind fun r => fin w r.1 r.2 (p.2.drop w) else none
theorem re_callW {w k : Nat} {F : List D -> Hd -> Option (D × Hd)} {t : TA} {m : MA} (h : RA K t m) (hk : ∀ ds hd z, F ds hd = some z -> ds.length = k) : RE K (tCall (spF K k F) [] E0 t) (mCallW w F m) := by
  intro ρ σ H hd ls Q d hd' hR hL hm hQ
  obtain ⟨⟨d1, h1⟩, e1, hm⟩ := Option.bind_eq_some_iff.mp hm
  dsimp only at hm
  split at hm
  · next c =>
    obtain ⟨c0, c1, c2⟩ := c
    obtain ⟨⟨d2, h2⟩, e2, hm⟩ := Option.bind_eq_some_iff.mp hm
    refine h ρ σ H hd ls _ d1 h1 hR hL e1 fun ρ1 H1 v1 x1 R1 r1 => ?_
    rw [List.append_nil]
    refine ⟨by rw [r1.len]; exact hk _ _ _ e2, ρ1.take w, h1.take w, d1, d2, h2, R1.take w c2, r1.take' w c1, e2, fun ρ' H' v x2 R2 r2 => ?_⟩
    unfold fin at hm
    dsimp only at hm
    split at hm
    · next c3 =>
      obtain ⟨R3, x3, tk⟩ := R1.back c0 c2 x2 R2 c3
      have up : ∀ {d : D} {v : V}, RD K ρ' H' d v -> clD w d = true -> RD K ρ1 H' d v := fun r c => by
        have q := r.take w c
        rw [tk] at q
        have q := q.mono (Grow.refl (H := H')) (ρ1.drop w)
        rw [List.take_append_drop] at q
        exact q
      have ups : ∀ {d : List D} {v : List V}, RDs K ρ' H' d v -> clDs w d = true -> RDs K ρ1 H' d v := fun r c => by
        have q := r.take' w c
        rw [tk] at q
        have q := q.mono (Grow.refl (H := H')) (ρ1.drop w)
        rw [List.take_append_drop] at q
        exact q
      split at hm
      · next k' =>
        split at hm
        · next hk' =>
          cases hm
          exact hQ ρ1 H' v (x1.trans R1 x3) R3 (up r2 (by simpa [clD] using hk'))
        · next hk' =>
          split at hm
          · next ds q =>
            split at hm
            · next c4 =>
              cases hm
              simp only [RD] at r2
              obtain ⟨a, ea, rfl⟩ := r2
              obtain ⟨xs, l1, l2⟩ := R2.lst ea q
              have len3 := R3.len
              have out : a ∉ ρ1 := fun m => by
                -- a is one of those made behind the first w
                obtain ⟨r, er, fr⟩ := x2.pre
                have lw : (ρ1.take w).length = w := by rw [List.length_take, R1.len]; omega
                have ma : a ∈ r := by
                  rw [er, List.getElem?_append_right (by rw [lw]; omega)] at ea
                  exact List.mem_of_getElem? ea
                exact R1.out (fr a ma) m
              have na : H1 a = none := by
                obtain ⟨r, er, fr⟩ := x2.pre
                have lw : (ρ1.take w).length = w := by rw [List.length_take, R1.len]; omega
                have ma : a ∈ r := by
                  rw [er, List.getElem?_append_right (by rw [lw]; omega)] at ea
                  exact List.mem_of_getElem? ea
                exact fr a ma
              refine hQ (ρ1 ++ [a]) H' _ (x1.trans R1 (x3.name na)) (R3.name out l1 (ups l2 c4)) ?_
              simp only [RD]
              refine ⟨a, ?_, rfl⟩
              have : w + (List.drop w h1).length = ρ1.length := by rw [List.length_drop, R1.len]; omega
              rw [this]; simp
            · cases hm
          · cases hm
      · next d' nd =>
        split at hm
        · next c4 => cases hm; exact hQ ρ1 H' v (x1.trans R1 x3) R3 (up r2 c4)
        · cases hm
    · cases hm
  · cases hm
def whileN (c : MT) (b : MS) : Nat -> Ls -> Hd -> Option (Fl × Hd)
  | 0, _, _ => none
  | k + 1, ls, hd => (c ls hd).bind fun p => if p.1 = true then (b ls p.2).bind fun q => (match q.1 with
      | .nx ls2 => whileN c b k ls2 q.2
      | .ct ls2 => whileN c b k ls2 q.2
      | .bk ls2 => some (.nx ls2, q.2)
      | .rt d => some (.rt d, q.2)) else some (.nx ls, p.2)
open Classical in
noncomputable def mWhile (c : MT) (b : MS) : MS := fun ls hd => if h : ∃ r k, whileN c b k ls hd = some r then some h.choose else none
theorem whileN_mono {c : MT} {b : MS} : ∀ {k j : Nat} {ls : Ls} {hd : Hd} {r : Fl × Hd}, whileN c b k ls hd = some r -> k <= j -> whileN c b j ls hd = some r
  | 0, _, _, _, _, h, _ => by cases h
  | k + 1, 0, _, _, _, _, hj => by omega
  | k + 1, j + 1, ls, hd, r, h, hj => by
    unfold whileN at h ⊢
    obtain ⟨p, e1, h⟩ := Option.bind_eq_some_iff.mp h
    rw [e1]
    show (if p.1 = true then _ else _) = _
    split at h
    · next c =>
      rw [if_pos c]
      obtain ⟨q, e2, h⟩ := Option.bind_eq_some_iff.mp h
      rw [e2]
      obtain ⟨f, hd2⟩ := q
      cases f with
      | nx ls2 => exact whileN_mono h (by omega)
      | ct ls2 => exact whileN_mono h (by omega)
      | bk ls2 => exact h
      | rt d => exact h
    · next c => rw [if_neg c]; exact h
theorem mWhile_eq {c : MT} {b : MS} {k : Nat} {ls : Ls} {hd : Hd} {r : Fl × Hd} (h : whileN c b k ls hd = some r) : mWhile c b ls hd = some r := by
  unfold mWhile
  have ex : ∃ r k, whileN c b k ls hd = some r := ⟨r, k, h⟩
  rw [dif_pos ex]
  obtain ⟨j, e⟩ := ex.choose_spec
  have e1 := whileN_mono e (Nat.le_max_left j k)
  have e2 := whileN_mono h (Nat.le_max_right j k)
  rw [e1] at e2
  exact e2
theorem rs_while {tc : TT} {tb : TS} {c : MT} {b : MS} (hc : RT K tc c) (hb : RS K tb b) : RS K (tWhile tc tb) (mWhile c b) := by
  intro ρ σ H hd ls E f hd' hR hL hm hQ
  obtain ⟨k, hk⟩ : ∃ k, whileN c b k ls hd = some (f, hd') := by
    unfold mWhile at hm
    split at hm
    · next ex =>
      obtain ⟨j, e⟩ := ex.choose_spec
      exact ⟨j, by rw [e]; exact hm⟩
    · cases hm
  refine ⟨fun m σ2 H2 => ∃ ρ2 ls2 hd2, Ext ρ H ρ2 H2 /\ RH K ρ2 H2 hd2 /\ RL K ρ2 H2 ls2 σ2 /\ whileN c b m ls2 hd2 = some (f, hd'), ⟨k, ρ, ls, hd, .refl, hR, hL, hk⟩, ?_⟩
  rintro m σ2 H2 ⟨ρ2, ls2, hd2, x2, R2, L2', hm2⟩
  cases m with
  | zero => cases hm2
  | succ m =>
    unfold whileN at hm2
    obtain ⟨⟨bb, hd3⟩, e1, hm2⟩ := Option.bind_eq_some_iff.mp hm2
    refine hc ρ2 σ2 H2 hd2 ls2 _ bb hd3 R2 L2' e1 fun ρ3 H3 x3 R3 => ?_
    cases bb with
    | false =>
      rw [if_neg Bool.false_ne_true] at hm2 ⊢
      cases hm2
      exact hQ ρ3 H3 (x2.trans R2 x3) R3 σ2 (L2'.ext R2 x3)
    | true =>
      rw [if_pos rfl] at hm2 ⊢
      obtain ⟨⟨fl, hd4⟩, e2, hm2⟩ := Option.bind_eq_some_iff.mp hm2
      refine ⟨fun σ' H' => ∃ ρ2 ls2 hd2, Ext ρ H ρ2 H' /\ RH K ρ2 H' hd2 /\ RL K ρ2 H' ls2 σ' /\ whileN c b m ls2 hd2 = some (f, hd'), fun σ' H' z => ⟨m, Nat.lt_succ_self m, z⟩, ?_⟩
      refine hb ρ3 σ2 H3 hd3 ls2 _ fl hd4 R3 (L2'.ext R2 x3) e2 fun ρ5 H5 x5 R5 => ?_
      have x15 := (x2.trans R2 x3).trans R3 x5
      cases fl with
      | nx ls5 => intro σ5 L5; exact ⟨ρ5, ls5, hd4, x15, R5, L5, hm2⟩
      | ct ls5 => intro σ5 L5; exact ⟨ρ5, ls5, hd4, x15, R5, L5, hm2⟩
      | bk ls5 => intro σ5 L5; cases hm2; exact hQ ρ5 H5 x15 R5 σ5 L5
      | rt d5 => intro v5 r5; cases hm2; exact hQ ρ5 H5 x15 R5 v5 r5
def valD (kvs : List (Key × D)) (k : Key) : Option D := (kvs.find? fun kv => decide (kv.1 = k)).map (·.2)
def putD (kvs : List (Key × D)) (k : Key) (v : D) : List (Key × D) :=
  if (kvs.any fun kv => decide (kv.1 = k)) = true then kvs.map (fun kv => if kv.1 = k then (kv.1, v) else kv) else kvs ++ [(k, v)]
theorem RKs.any : ∀ {kvs : List (Key × D)} {xs : List (Key × V)} {k : Key}, RKs K ρ H kvs xs -> (xs.any fun kv => decide (kv.1 = k)) = (kvs.any fun kv => decide (kv.1 = k))
  | [], xs, k, h => by simp only [RKs] at h; subst h; rfl
  | p :: kvs, xs, k, h => by
    simp only [RKs] at h
    obtain ⟨x, r, rfl, e1, r1, r2⟩ := h
    simp only [List.any_cons, e1, RKs.any r2]
theorem RKs.upd : ∀ {kvs : List (Key × D)} {xs : List (Key × V)} {k : Key} {d : D} {v : V}, RKs K ρ H kvs xs -> RD K ρ H d v -> RKs K ρ H (kvs.map (fun kv => if kv.1 = k then (kv.1, d) else kv)) (xs.map (fun kv => if kv.1 = k then (kv.1, v) else kv))
  | [], xs, k, d, v, h, _ => by simp only [RKs] at h; subst h; simp [RKs]
  | p :: kvs, xs, k, d, v, h, q => by
    simp only [RKs] at h
    obtain ⟨x, r, rfl, e1, r1, r2⟩ := h
    simp only [List.map_cons, RKs]
    refine ⟨_, _, rfl, ?_, ?_, RKs.upd r2 q⟩
    · rw [e1]; split <;> simp [e1]
    · rw [e1]; split
      · exact q
      · exact r1
def keyD : D -> Option Key
  | .im (.int i) => some (.inl i)
  | .im (.str x) => some (.inr x)
  | _ => none
def dicView (hd : Hd) : D -> Option (List (Key × D))
  | .mu n => match hd[n]? with
    | some (.dic kvs) => some kvs
    | _ => none
  | _ => none
theorem RD.dic {d : D} {v : V} {kvs : List (Key × D)} (hR : RH K ρ H hd) (h : RD K ρ H d v) (e : dicView hd d = some kvs) : ∃ n a xs, d = .mu n /\ v = .ref a /\ ρ[n]? = some a /\ H a = some (.dK xs) /\ RKs K ρ H kvs xs := by
  cases d with
  | mu n =>
    simp only [dicView] at e
    simp only [RD] at h
    obtain ⟨a, hn, rfl⟩ := h
    split at e
    · next q =>
      cases e
      obtain ⟨xs, e1, e2⟩ := hR.dic hn q
      exact ⟨n, a, xs, rfl, rfl, hn, e1, e2⟩
    · cases e
  | _ => simp [dicView] at e
def gDGet : D -> D -> Hd -> Option (D × Hd) := fun d e hd => (dicView hd d).bind fun kvs => (keyD e).bind fun k => (valD kvs k).map (·, hd)
open Classical in
noncomputable def mDPut (md my mv : ME) : MS := fun ls hd => (mv ls hd).bind fun p => (md ls p.2).bind fun q => (my ls q.2).bind fun r => (keyD r.1).bind fun k => match q.1 with
  | .mu n => match r.2[n]? with
    | some (.dic kvs) => if fitsL kvs.length then some (.nx ls, r.2.set n (.dic (putD kvs k p.1))) else none
    | _ => none
  | _ => none
def mPairs : List (ME × ME) -> Ls -> Hd -> Option (List (Key × D) × Hd)
  | [], _, hd => some ([], hd)
  | (mk, mv) :: r, ls, hd => (mk ls hd).bind fun p => (mv ls p.2).bind fun q => (mPairs r ls q.2).bind fun z => (keyD p.1).map fun k => ((k, q.1) :: z.1, z.2)
def mergeD (kvs more : List (Key × D)) : List (Key × D) := more.foldl (fun acc kv => putD acc kv.1 kv.2) kvs
def mDisp (ms : List (ME × ME)) : ME := fun ls hd => (mPairs ms ls hd).bind fun p => if p.1.length <= 15 then some (.mu p.2.length, p.2 ++ [.dic (mergeD [] p.1)]) else none
def mLPut (mo mi mv : ME) : MS := fun ls hd => (mv ls hd).bind fun p => (mo ls p.2).bind fun q => (mi ls q.2).bind fun r => match q.1, r.1 with
  | .mu n, .im (.int i) => match r.2[n]? with
    | some (.lst ds) => (ixN ds.length i).map fun j => (.nx ls, r.2.set n (.lst (ds.set j p.1)))
    | _ => none
  | _, _ => none
theorem rs_lput {to ti tv : TE} {mo mi mv : ME} (ho : RE K to mo) (hi : RE K ti mi) (hv : RE K tv mv) : RS K (tAsg tv (gSub to ti rSetL)) (mLPut mo mi mv) := by
  intro ρ σ H hd0 ls E f hd' hR hL hm hQ
  obtain ⟨⟨d1, h1⟩, e1, hm⟩ := Option.bind_eq_some_iff.mp hm
  obtain ⟨⟨d2, h2⟩, e2, hm⟩ := Option.bind_eq_some_iff.mp hm
  obtain ⟨⟨d3, h3⟩, e3, hm⟩ := Option.bind_eq_some_iff.mp hm
  dsimp only at hm
  split at hm
  · split at hm
    · next q =>
      obtain ⟨j, e4, e5⟩ := Option.map_eq_some_iff.mp hm
      cases e5
      refine hv ρ σ H hd0 ls _ d1 h1 hR hL e1 fun ρ1 H1 v1 x1 R1 r1 => ?_
      refine ho ρ1 σ H1 h1 ls _ _ h2 R1 (hL.ext hR x1) e2 fun ρ2 H2 v2 x2 R2 r2 => ?_
      refine hi ρ2 σ H2 h2 ls _ _ _ R2 (hL.ext hR (x1.trans R1 x2)) e3 fun ρ3 H3 v3 x3 R3 r3 => ?_
      have r2 := r2.ext R2 x3
      simp only [RD] at r2
      obtain ⟨a, hn, rfl⟩ := r2
      simp only [RD, RI] at r3
      subst r3
      obtain ⟨xs, l1, l2⟩ := R3.lst hn q
      obtain ⟨R4, x4⟩ := R3.put hn (o := .lst _) (ho := .lst (xs.set j v1)) ⟨_, rfl, l2.set j ((r1.ext R1 x2).ext R2 x3)⟩
      have x13 := (x1.trans R1 x2).trans R2 x3
      exact ⟨a, xs, _, j, rfl, rfl, l1, by rw [l2.len]; exact e4, hQ ρ3 _ (x13.trans R3 x4) R4 σ ((hL.ext hR x13).ext R3 x4)⟩
    · cases hm
  · cases hm
end
end L2
namespace L2
open PySem PySem.Spec PyProof.Rows
structure QG (K : PySem.W.Frag) (X : Cx) (e : Expr) (t : TG) (m : MG) : Prop where
  p : PG X e t
  r : RGt K t m
structure QGs (K : PySem.W.Frag) (X : Cx) (e : List Expr) (t : TGs) (m : MGs) : Prop where
  p : PGs X e t
  r : RGts K t m
structure QI (K : PySem.W.Frag) (X : Cx) (tg e : Expr) (t : TI) (m : MI) : Prop where
  p : PI X tg e t
  r : RIt K t m
structure QF (K : PySem.W.Frag) (X : Cx) (e : List Expr) (t : TT) (m : MT) : Prop where
  p : PF X e t
  r : RT K t m
structure QO (K : PySem.W.Frag) (X : Cx) (e : Option Expr) (t : TO) (m : MO1) : Prop where
  p : PO X e t
  r : RO1 K t m
def catOk (a b : List D) : Prop := a ≠ [] /\ fits (a.length + b.length)
open Classical in
noncomputable def gCatT : D -> D -> Hd -> Option (D × Hd) := fun d e hd => (tupView d).bind fun a => (tupView e).bind fun b => if catOk a b then some (mkTup (a ++ b), hd) else none
theorem rb_catT {K : PySem.W.Frag} : RB K (rCatT K) gCatT := by
  intro ρ H hd d e v u Q z hd' hR h1 h2 hf hQ
  unfold gCatT at hf
  obtain ⟨a, e1, hf⟩ := Option.bind_eq_some_iff.mp hf
  obtain ⟨b, e2, hf⟩ := Option.bind_eq_some_iff.mp hf
  split at hf
  · next c =>
    cases hf
    obtain ⟨p, xs, rfl, q1, r1⟩ := h1.tup e1
    obtain ⟨p2, ys, rfl, q2, r2⟩ := h2.tup e2
    have l1 := r1.len; have l2 := r2.len
    refine ⟨p, p2, xs, ys, rfl, rfl, q1, q2, fun z => c.1 (by rw [z] at l1; simpa using l1.symm), by rw [l1, l2]; exact c.2, fun z => ?_, fun _ p3 hp => ?_⟩
    · have : b = [] := by rw [z] at l2; simpa using l2.symm
      subst this
      exact hQ ρ H _ .refl hR (by rw [List.append_nil]; exact rd_mkTup q1 r1)
    · obtain ⟨R2, x2⟩ := hR.hid (ho := .tup (xs ++ ys)) hp
      exact hQ ρ _ _ x2 R2 (rd_mkTup (SqT.of upd_same) ((r1.app r2).ext hR x2))
  · cases hf
noncomputable abbrev gAddA := fElse gAdd gCatT
def mIsN (neg : Bool) (m : ME) : ME := fun ls hd => (m ls hd).bind fun p => some (.im (.bl (match p.1 with
  | .im .non => !neg
  | _ => neg)), p.2)
theorem nonD {K : PySem.W.Frag} {ρ : List Addr} {H : Hp} {d : D} {v : V} (h : RD K ρ H d v) : decide (v = .non) = (match d with | .im .non => true | _ => false) := by
  cases d with
  | im i =>
    cases i with
    | non => simp only [RD, RI] at h; subst h; rfl
    | tup is => simp only [RD, RI] at h; obtain ⟨a, xs, rfl, _⟩ := h; rfl
    | _ => simp only [RD, RI] at h; subst h; rfl
  | mu n => simp only [RD] at h; obtain ⟨a, _, rfl⟩ := h; rfl
  | tm ds => simp only [RD] at h; obtain ⟨a, xs, rfl, _⟩ := h; rfl
  | ro ns => simp only [RD] at h; obtain ⟨a, rfl, _⟩ := h; rfl
theorem re_isN {K : PySem.W.Frag} {t : TE} {m : ME} (h : RE K t m) : RE K (tIsN t) (mIsN false m) := by
  intro ρ σ H hd ls Q d hd' hR hL hm hQ
  obtain ⟨⟨d1, h1⟩, e1, hm⟩ := Option.bind_eq_some_iff.mp hm
  cases hm
  refine h ρ σ H hd ls _ d1 _ hR hL e1 fun ρ1 H1 v x1 R1 r1 => ?_
  rw [nonD r1]
  refine hQ ρ1 H1 _ x1 R1 ?_
  simp only [RD, RI]
  cases d1 with
  | im i => cases i <;> rfl
  | _ => rfl
def mNeg (m : ME) : ME := fun ls hd => (m ls hd).bind fun p => match p.1 with
  | .im (.int i) => some (.im (.int (-i)), p.2)
  | _ => none
theorem re_neg {K : PySem.W.Frag} {t : TE} {m : ME} (h : RE K t m) : RE K (tUn (rU fun i => .int (-i)) t) (mNeg m) := by
  intro ρ σ H hd ls Q d hd' hR hL hm hQ
  obtain ⟨⟨d1, h1⟩, e1, hm⟩ := Option.bind_eq_some_iff.mp hm
  dsimp only at hm
  split at hm
  · cases hm
    exact h ρ σ H hd ls _ _ _ hR hL e1 fun ρ1 H1 v x1 R1 r1 => ⟨_, by simpa only [RD, RI] using r1, hQ ρ1 H1 _ x1 R1 (by simp [RD, RI])⟩
  · cases hm
def mYes : MT := fun _ hd => some (true, hd)
theorem rt_yes {K : PySem.W.Frag} : RT K tYes mYes := by
  intro ρ σ H hd ls Q d hd' hR hL hm hQ
  cases hm
  exact hQ ρ H .refl hR
section
variable (K : PySem.W.Frag) {X : Cx} {a b c e : Expr} {es : List Expr} {ta tb tc te : TE} {ma mb mc me : ME} {tA tB' : TT} {nA nB : MT} {t : TA} {m : MA} {pos : Pos} {x : Str}
theorem qv (i : Nat) {x : Str} {pos : Pos} (hN : X.N[i]? = some x := by rfl) (hv : Vis X.env.scope x := by first | exact Or.inl rfl | exact Or.inr (Or.inl rfl) | exact Or.inr (Or.inr rfl)) (hd : (x == ("__debug__" : Str)) = false := by decide)
    (hcd : (x == ("__classdict__" : Str)) = false := by decide) : QE K X (.Name x pos) (tVar i) (mVar i) := ⟨pe_var hN hv hd hcd, re_var⟩
theorem qe_int {i : Int} {j pos} : QE K X (.Constant (.int i) j pos) (tC (.int i)) (mC (.int i)) := ⟨pe_int, re_c fun _ => by simp [RI]⟩
theorem qe_bl {i : Bool} {j pos} : QE K X (.Constant (.bool i) j pos) (tC (.bl i)) (mC (.bl i)) := ⟨pe_bl, re_c fun _ => by simp [RI]⟩
theorem qe_non {j pos} : QE K X (.Constant .none j pos) (tC .non) (mC .non) := ⟨pe_non, re_c fun _ => by simp [RI]⟩
theorem qe_str {x : Str} {j pos} : QE K X (.Constant (.str x) j pos) (tC (.str x)) (mC (.str x)) := ⟨pe_str, re_c fun _ => by simp [RI]⟩
theorem qe_op {op : Operator} {r : R2} {f : D -> D -> Hd -> Option (D × Hd)} (ho : OpR X (binaryOp op) r) (hr : RB K r f) (ha : QE K X a ta ma) (hb : QE K X b tb mb) : QE K X (.BinOp a op b pos) (tOp r ta tb) (mOp f ma mb) := ⟨pe_op ho ha.p hb.p, re_op hr ha.r hb.r⟩
theorem qe_neg (ha : QE K X a ta ma) : QE K X (.UnaryOp .USub a pos) (tUn (rU fun i => .int (-i)) ta) (mNeg ma) := ⟨pe_un un_neg ha.p, re_neg ha.r⟩
theorem qe_cmp {op : CmpOp} {r : R2} {f : D -> D -> Hd -> Option (D × Hd)} (ho : OpR X (compareOp op) r) (hr : RB K r f) (ha : QE K X a ta ma) (hb : QE K X b tb mb) (hm : behindInMarks op b = false := by first | exact nomark _ | rfl) : QE K X (.Compare a [op] [b] pos) (tOp r ta tb) (mOp f ma mb) := ⟨pe_cmpR ho ha.p hb.p hm, re_op hr ha.r hb.r⟩
theorem qt_cmp {op : CmpOp} {r : R2} {f : D -> D -> Hd -> Option (D × Hd)} (ho : OpR X (compareOp op) r) (hr : RB K r f) (ha : QE K X a ta ma) (hb : QE K X b tb mb) (hm : behindInMarks op b = false := by first | exact nomark _ | rfl) : QT K X (.Compare a [op] [b] pos) (tTest (tOp r ta tb)) (mTest (mOp f ma mb)) := ⟨pt_cmpR ho ha.p hb.p hm, rt_test (re_op hr ha.r hb.r)⟩
theorem qt_isN {j pos'} (ha : QE K X a ta ma) : QT K X (.Compare a [.Is] [.Constant .none j pos'] pos) (tB (tIsN ta)) (mTest (mIsN false ma)) := ⟨pt_cmp (pc_isN ha.p), rt_B (re_isN ha.r)⟩
theorem qt_truth (ha : QE K X a ta ma) (he : ∀ whole, isTrue a X.env whole = (do let v <- whole; standAt a.pos; holding [v] (truthy v)) := by intro _; rfl) (hK : X.K = K := by rfl) :
    QT K X a (fun σ H Q => ta σ H fun x H' => ∃ k, TruV K x H' k /\ Q k H') (mTru ma) := by
  subst hK
  exact ⟨pt_truth ha.p he, rt_truth ha.r⟩
theorem qt_not (ha : QT K X a tA nA) : QT K X (.UnaryOp .Not a pos) (tNot tA) (mNot nA) := ⟨pt_not ha.p, rt_not ha.r⟩
theorem qw_and1 (ha : QT K X a tA nA) : QW K X (.BoolOp .And [a] pos) tA nA := ⟨pw_and1 ha.p, ha.r⟩
theorem qw_or1 (ha : QT K X a tA nA) : QW K X (.BoolOp .Or [a] pos) tA nA := ⟨pw_or1 ha.p, ha.r⟩
theorem qw_and {rest : List Expr} (ha : QT K X a tA nA) (hb : QW K X (.BoolOp .And (b :: rest) pos) tB' nB) : QW K X (.BoolOp .And (a :: b :: rest) pos) (tAnd tA tB') (mAnd nA nB) := ⟨pw_and ha.p hb.p, rt_and ha.r hb.r⟩
theorem qw_or {rest : List Expr} (ha : QT K X a tA nA) (hb : QW K X (.BoolOp .Or (b :: rest) pos) tB' nB) : QW K X (.BoolOp .Or (a :: b :: rest) pos) (tOr tA tB') (mOr nA nB) := ⟨pw_or ha.p hb.p, rt_or ha.r hb.r⟩
theorem QW.toT {K : PySem.W.Frag} {X : Cx} {e : Expr} {t : TT} {m : MT} (h : QW K X e t m) : QT K X e t m := ⟨h.p.pt, h.r⟩
theorem qe_one {op} (ha : QE K X a ta ma) : QE K X (.BoolOp op [a] pos) ta ma := ⟨pe_one ha.p, ha.r⟩
theorem qe_and {rest : List Expr} (ha : QE K X a ta ma) (hb : QE K X (.BoolOp .And (b :: rest) pos) tb mb) : QE K X (.BoolOp .And (a :: b :: rest) pos) (tAndV ta tb) (mAndV ma mb) := ⟨pe_and ha.p hb.p, re_andV ha.r hb.r⟩
theorem qe_ifExp (hc : QT K X c tA nA) (ha : QE K X a ta ma) (hb : QE K X b tb mb) : QE K X (.IfExp c a b pos) (tIf tA ta tb) (mIf nA ma mb) := ⟨pe_ifExp hc.p ha.p hb.p, re_if hc.r ha.r hb.r⟩
theorem qa_nil : QA K X [] tNil mNil := ⟨pa_nil, ra_nil⟩
theorem qa_cons (ha : QE K X e te me) (hr : QA K X es t m) (hs : starEach (e :: es) X.env = (false, eval e X.env) :: starEach es X.env := by rfl) : QA K X (e :: es) (tCons te t) (mCons me m) := ⟨pa_cons ha.p hr.p hs, ra_cons ha.r hr.r⟩
theorem qe_tup {x1} (h : QA K X es t m) : QE K X (.Tuple es x1 pos) (tTup t) (mTup m) := ⟨pe_tup h.p, re_tup h.r⟩
theorem qn_lst (h : QA K X es t m) : QN K X (.List es pos) (tLst t) (mLst m) := ⟨pe_lst h.p, rn_lst h.r⟩
theorem qe_new (h : QN K X e te m) : QE K X e te (mNew m) := ⟨h.p, re_new h.r⟩
theorem qe_ix (ha : QE K X a ta ma) (hb : QE K X b tb mb) (hs : PlainIx b := by exact fun _ _ => rfl) (hK : X.K = K := by rfl) : QE K X (.Subscript a b pos) (tOp (rIxLT K) ta tb) (mOp gIx ma mb) := ⟨pe_ix ((ix_listK K hK).or (ix_tupK K hK)) ha.p hb.p hs, re_op rb_ix ha.r hb.r⟩
theorem qo_none : QO K X none tNoPart mNoPart := ⟨po_none, ro_none⟩
theorem qo_some (h : QE K X e te me) : QO K X (some e) (tPart te) (mPart me) := ⟨po_some h.p, ro_some h.r⟩
theorem qn_slL {lo hi : Option Expr} {tl th : TO} {ml mh : MO1} {p2 : Pos} (h : QE K X e te me) (hl : QO K X lo tl ml) (hh : QO K X hi th mh) (hK : X.K = K := by rfl) : QN K X (.Subscript e (.Slice lo hi none p2) pos) (tSl (rSlL K) te tl th) (mSlL me ml mh) := ⟨pe_slice (sl_listK K hK) h.p hl.p hh.p, rn_slL h.r hl.r hh.r⟩
theorem qe_cb {id : String} {p : Pos} {r : List V -> Hp -> VK -> Prop} {f : List D -> Hd -> Option (D × Hd)} (hc : CallR X (.builtin id) r) (hr : RF K r f) (hm : X.mg x = none) (hv : bootBuiltins x = some (.builtin id)) (ha : QA K X (e :: es) t m) (hg : Gl X x := by rfl) (hn : x ≠ "__name__" := by decide) (hdb : (x == ("__debug__" : Str)) = false := by decide)
    (he : starEach (e :: es) X.env = (false, eval e X.env) :: starEach es X.env := by rfl) (hpl : (backTo pos (starEach es X.env)).any (·.1) = false := by rfl) : QE K X (.Call (.Name x p) (e :: es) [] pos) (tCB r t) (mCB f m) := ⟨pe_callB hc hg hm hv ha.p hn hdb he hpl, re_cb hr ha.r⟩
theorem qe_ct {id : String} {p : Pos} {r : List V -> Hp -> VK -> Prop} {f : List D -> Hd -> Option (D × Hd)} (hc : CallR X (.type id) r) (hr : RF K r f) (hm : X.mg x = none) (hv : bootBuiltins x = some (.type id)) (ha : QA K X (e :: es) t m) (hg : Gl X x := by rfl) (hn : x ≠ "__name__" := by decide) (hdb : (x == ("__debug__" : Str)) = false := by decide)
    (he : starEach (e :: es) X.env = (false, eval e X.env) :: starEach es X.env := by rfl) (hpl : (backTo pos (starEach es X.env)).any (·.1) = false := by rfl) : QE K X (.Call (.Name x p) (e :: es) [] pos) (tCB r t) (mCB f m) := ⟨pe_callTy hc hg hm hv ha.p hn hdb he hpl, re_cb hr ha.r⟩
theorem qe_hb {id : String} {p : Pos} {r : List V -> Hp -> VK -> Prop} {tp : Bool} {g : List D -> Option D} (hc : CallR X (.builtin id) r) (hr : RG K tp r g) (hm : X.mg x = none) (hv : bootBuiltins x = some (.builtin id)) (ha : QN K X e te m) (hg : Gl X x := by rfl) (hn : x ≠ "__name__" := by decide) (hdb : (x == ("__debug__" : Str)) = false := by decide)
    (he : starEach [e] X.env = [(false, eval e X.env)] := by rfl) : QE K X (.Call (.Name x p) [e] [] pos) (tCB r (tCons te tNil)) (mHid g m) := ⟨pe_callB hc hg hm hv (pa_cons ha.p pa_nil he) hn hdb he rfl, re_hid hr ha.r⟩
theorem qe_ht {id : String} {p : Pos} {r : List V -> Hp -> VK -> Prop} {tp : Bool} {g : List D -> Option D} (hc : CallR X (.type id) r) (hr : RG K tp r g) (hm : X.mg x = none) (hv : bootBuiltins x = some (.type id)) (ha : QN K X e te m) (hg : Gl X x := by rfl) (hn : x ≠ "__name__" := by decide) (hdb : (x == ("__debug__" : Str)) = false := by decide)
    (he : starEach [e] X.env = [(false, eval e X.env)] := by rfl) : QE K X (.Call (.Name x p) [e] [] pos) (tCB r (tCons te tNil)) (mHid g m) := ⟨pe_callTy hc hg hm hv (pa_cons ha.p pa_nil he) hn hdb he rfl, re_hid hr ha.r⟩
theorem qn_listH {p : Pos} (hm : X.mg "list" = none) (ha : QN K X e te m) (hg : Gl X "list" := by rfl) (he : starEach [e] X.env = [(false, eval e X.env)] := by rfl) (hK : X.K = K := by rfl) : QN K X (.Call (.Name "list" p) [e] [] pos) (tCB (rListOf K) (tCons te tNil)) (mListH m) := ⟨pe_callTy (call_listK K hK) hg hm bt_list (pa_cons ha.p pa_nil he) (by decide) (by decide) he rfl, rn_listH ha.r⟩
theorem qe_mt {id : String} {r : V -> List V -> Hp -> VK -> Prop} {f : D -> List D -> Hd -> Option (D × Hd)} {name : Str} {apos cpos : Pos} {o : Expr} {to : TE} {mo : ME} (slot : Slot "list" name id) (hty : typeOf (.builtin id) = pure (.type "method_descriptor")) (hm : MtM X id r) (hr : RM K r f) (ho : QE K X o to mo) (ha : QA K X (e :: es) t m)
    (hbase : attributeBase o name X.env (eval o X.env) = eval o X.env := by rfl)
    (hfew : ((backTo cpos (starEach (e :: es) X.env)).all (fun x => !x.1) && (backToKw cpos (keywordEach [] X.env)).all (fun x => x.1.isSome)
      && decide ((e :: es).length + ([] : List Keyword).length + (if ([] : List Keyword).isEmpty then 0 else 1) < 30)) = true := by rfl)
    (hline : (apos.endLine == cpos.line) = true := by rfl) (hs : starEach (e :: es) X.env = (false, eval e X.env) :: starEach es X.env := by rfl) (hplain : (backTo cpos (starEach es X.env)).any (·.1) = false := by rfl) (hK : X.K = K := by rfl) :
    QE K X (.Call (.Attribute o name apos) (e :: es) [] cpos) (tBM K "list" r to t) (mMt f mo m) := by
  subst hK
  exact ⟨pe_bm PySem.F.plainAttrs_list slot hty hm ho.p ha.p hbase hfew hline hs hplain, re_mt hr ho.r ha.r⟩
theorem qe_callW (w : Nat) {j k : Nat} {f : Addr} {fd : FuncData} {ps : List Str} {n : Nat} {F : List D -> Hd -> Option (D × Hd)} {st : Stmt} {p : Pos} (G : FnOk X.prog X.w X.K X.mg X.base CX0 j f fd ps (spF K n F)) (hr : Room k X.A) (DA : DefAt X.K X.mg x st f fd ps) (ha : QA K X (e :: es) t m) (hF : ∀ ds hd z, F ds hd = some z -> ds.length = n)
    (hjk : j <= k := by decide) (hg : Gl X x := by rfl) (hdb : (x == ("__debug__" : Str)) = false := by decide) (he : starEach (e :: es) X.env = (false, eval e X.env) :: starEach es X.env := by rfl) (hpl : (backTo pos (starEach es X.env)).any (·.1) = false := by rfl) :
    QE K X (.Call (.Name x p) (e :: es) [] pos) (tCall (spF K n F) [] E0 t) (mCallW w F m) := ⟨pcall G hr DA ha.p hjk hg hdb he hpl, re_callW ha.r hF⟩
theorem qe_callG {j k : Nat} {f : Addr} {fd : FuncData} {ps : List Str} {n : Nat} {F : List D -> Hd -> Option (D × Hd)} {st : Stmt} {p : Pos} (G : FnOk X.prog X.w X.K X.mg X.base CX0 j f fd ps (spF K n F)) (hr : Room k X.A) (DA : DefAt X.K X.mg x st f fd ps) (ha : QA K X (e :: es) t m) (hF : ∀ ds hd z, F ds hd = some z -> ds.length = n)
    (hjk : j <= k := by decide) (hg : Gl X x := by rfl) (hdb : (x == ("__debug__" : Str)) = false := by decide) (he : starEach (e :: es) X.env = (false, eval e X.env) :: starEach es X.env := by rfl) (hpl : (backTo pos (starEach es X.env)).any (·.1) = false := by rfl) :
    QE K X (.Call (.Name x p) (e :: es) [] pos) (tCall (spF K n F) [] E0 t) (mCallG F m) := ⟨pcall G hr DA ha.p hjk hg hdb he hpl, re_callG ha.r hF⟩
theorem qg_name {i : Nat} (hN : X.N.Nodup) (hi : X.N[i]? = some x) (hx : Loc X.env.scope x) (hf : X.fn x = true ∨ X.env.scope.names.lookup x = some .local := by first | exact .inl rfl | exact .inr rfl | assumption) : QG K X (.Name x pos) (gName i) (nName i) := ⟨pg_name hN hi hx hf, rg_name⟩
theorem qgs_nil : QGs K X [] gNil nNil := ⟨pgs_nil, rgs_nil⟩
theorem qgs_cons {tg : TG} {tgs : TGs} {n : MG} {ns : MGs} (h1 : QG K X e tg n) (h2 : QGs K X es tgs ns) (hs : (assignEach (e :: es) X.env).map (·.2) = assign e X.env :: (assignEach es X.env).map (·.2) := by rfl) : QGs K X (e :: es) (gCons tg tgs) (nCons n ns) := ⟨pgs_cons h1.p h2.p hs, rgs_cons h1.r h2.r⟩
theorem qg_tup {k n : Nat} {tgs : TGs} {ns : MGs} (hc : X.calm = true) (h : QGs K X es tgs ns) (hK : X.K = K := by rfl) (hn : (assignEach es X.env).length = n := by rfl) (hst : (assignEach es X.env).findIdx? (·.1) = none := by rfl) : QG K X (.Tuple es k pos) (gTup K n tgs) (nTup n ns) := ⟨pg_tupK K hc h.p hK hn hst, rg_tup h.r⟩
theorem qi_tup {tg : Expr} (h : QE K X e te me) (hK : X.K = K := by rfl) : QI K X tg e (iTup K te) (mItT me) := ⟨pi_tupK K h.p hK, ri_tup h.r⟩
theorem qi_list {tg : Expr} (h : QE K X e te me) (hK : X.K = K := by rfl) : QI K X tg e (iList K te) (mItL me) := ⟨pi_listK K h.p hK, ri_list h.r⟩
theorem qi_rng1 {tg : Expr} {p : Pos} (hm : X.mg "range" = none) (ha : QA K X [a] t m) (hg : Gl X "range" := by rfl) (hs : starEach [a] X.env = [(false, eval a X.env)] := by rfl) : QI K X tg (.Call (.Name "range" p) [a] [] pos) (iRng1 t) (mItR m) := ⟨pi_range1 hg hm ha.p hs, ri_rng1 ha.r⟩
theorem qf_nil : QF K X [] tYes mYes := ⟨pf_nil, rt_yes⟩
theorem qf_one (h : QT K X c tA nA) : QF K X [c] tA nA := ⟨pf_one h.p, h.r⟩
theorem qn_comp {elt tg iter : Expr} {ifs : List Expr} {scope : Scope} {loc fr : List Str} {ix : List Nat} {wi : TI} {g : TG} {tf : TT} {te : TE} {mi : MI} {n : MG} {mf : MT} {mm : ME} (hc : X.calm = true) (S : CSc X scope fr ix) (hi : QI K X tg iter wi mi)
    (hg : ∀ s H ex, QG K (cCx X (loc ++ fr) scope s H ex) tg g n) (hf : ∀ s H ex, QF K (cCx X (loc ++ fr) scope s H ex) ifs tf mf) (he : ∀ s H ex, QE K (cCx X (loc ++ fr) scope s H ex) elt te mm)
    (hs : ∀ x, foldedSetIterable iter X.env x = pure x := by intro _; rfl) : QN K X (.ListComp elt [⟨tg, iter, ifs, 0⟩] scope pos) (tComp loc.length ix wi g tf te) (mComp loc.length ix mi n mf mm) :=
  ⟨pe_comp hc S hi.p (fun s H ex => (hg s H ex).p) (fun s H ex => (hf s H ex).p) (fun s H ex => (he s H ex).p) hs, rn_comp hi.r (hg X.s₀ X.H₀ []).r (hf X.s₀ X.H₀ []).r (he X.s₀ X.H₀ []).r⟩
theorem qss_nil : QSs K X [] tNext mNext := ⟨pss_nil, rs_next⟩
theorem qss_cons {st : Stmt} {rest : List Stmt} {u v : TS} {m1 m2 : MS} (h1 : QS K X st u m1) (h2 : QSs K X rest v m2) : QSs K X (st :: rest) (tSeq u v) (mSeq m1 m2) := ⟨pss_cons h1.p h2.p, rs_seq h1.r h2.r⟩
theorem qss_one {st : Stmt} {u : TS} {m1 : MS} (h1 : QS K X st u m1) : QSs K X [st] u m1 := ⟨pss_one h1.p, h1.r⟩
theorem qs_expr (he : QE K X e te me) (hs : swapsWith e none pos.line X.env = pure false := by rfl) : QS K X (.Expr e pos) (tDrop te) (mDrop me) := ⟨ps_expr he.p hs, rs_drop he.r⟩
theorem qs_ret (he : QE K X e te me) : QS K X (.Return (some e) pos) (tRet te) (mRet me) := ⟨ps_ret he.p, rs_ret he.r⟩
theorem qs_if {a b : List Stmt} {u v : TS} {m1 m2 : MS} (hc : QT K X c tA nA) (ha : QSs K X a u m1) (hb : QSs K X b v m2) : QS K X (.If c a b pos) (tIfS tA u v) (mIfS nA m1 m2) := ⟨ps_if hc.p ha.p hb.p, rs_if hc.r ha.r hb.r⟩
theorem qs_never {st : Stmt} : QS K X st tNever mNever := ⟨ps_never, rs_never⟩
theorem qs_asg {tg : Expr} {g : TG} {n : MG} (he : QE K X e te me) (hg : QG K X tg g n) (hs : swapsWithSole [tg] e pos.line X.env = pure false := by rfl) (hw : swappedStores [tg] e X.env = pure none := by rfl)
    (h1 : (assignEach [tg] X.env).map (·.2) = [assign tg X.env] := by rfl) : QS K X (.Assign [tg] e pos) (tAsg te g) (mAsg me n) := ⟨ps_asg he.p hg.p hs hw h1, rs_asg he.r hg.r⟩
theorem qs_set {i : Nat} {pos' : Pos} (hN : X.N.Nodup) (hi : X.N[i]? = some x) (hx : Loc X.env.scope x) (he : QE K X e te me) (hs : swapsWith e (some (.Name x pos')) pos.line X.env = pure false := by rfl) (hf : X.fn x = true ∨ X.env.scope.names.lookup x = some .local := by first | exact .inl rfl | exact .inr rfl | assumption) :
    QS K X (.Assign [.Name x pos'] e pos) (tAsg te (gName i)) (mSet i me) := ⟨ps_set hN hi hx he.p hs hf, rs_asg he.r rg_name⟩
theorem qs_setC {i : Nat} {y : Str} {elt tg iter : Expr} {ifs : List Expr} {scope : Scope} {spos py : Pos} {loc fr : List Str} {ix : List Nat} {wi : TI} {g : TG} {tf : TT} {te : TE} {mi : MI} {n : MG} {mf : MT} {mm : ME} (hN : X.N.Nodup) (hiN : X.N[i]? = some y) (hy : X.env.scope.names.lookup y = some .local)
    (hc : X.calm = true) (S : CSc X scope fr ix) (hi : QI K X tg iter wi mi)
    (hg : ∀ s H ex, QG K (cCx X (loc ++ fr) scope s H ex) tg g n) (hf : ∀ s H ex, QF K (cCx X (loc ++ fr) scope s H ex) ifs tf mf) (he : ∀ s H ex, QE K (cCx X (loc ++ fr) scope s H ex) elt te mm)
    (hsw : swapsWith (.ListComp elt [⟨tg, iter, ifs, 0⟩] scope pos) (some (.Name y py)) spos.line X.env = pure true := by rfl) (hs : ∀ x, foldedSetIterable iter X.env x = pure x := by intro _; rfl) :
    QS K X (.Assign [.Name y py] (.ListComp elt [⟨tg, iter, ifs, 0⟩] scope pos) spos) (tAsg (tComp loc.length ix wi g tf te) (gName i)) (mSet i (mNew (mComp loc.length ix mi n mf mm))) :=
  ⟨ps_setC hN hiN hy hc S hi.p (fun s H ex => (hg s H ex).p) (fun s H ex => (hf s H ex).p) (fun s H ex => (he s H ex).p) hsw hs, rs_asg (re_new (rn_comp hi.r (hg X.s₀ X.H₀ []).r (hf X.s₀ X.H₀ []).r (he X.s₀ X.H₀ []).r)) rg_name⟩
theorem qs_par {i j : Nat} {x y : Str} {a b : Expr} {px py pt : Pos} {kt k2 pt2} (hc : X.calm = true) (hN : X.N.Nodup) (hi : X.N[i]? = some x) (hj : X.N[j]? = some y) (hij : i ≠ j)
    (hx : X.env.scope.names.lookup x = some .local) (hy : X.env.scope.names.lookup y = some .local) (ha : QA K X [a, b] t m)
    (hw : swappedStores [.Tuple [.Name x px, .Name y py] kt pt] (.Tuple [a, b] k2 pt2) X.env = pure (some [x, y]) := by rfl)
    (hs : swapsWithSole [.Tuple [.Name x px, .Name y py] kt pt] (.Tuple [a, b] k2 pt2) pos.line X.env = pure false := by rfl) :
    QS K X (.Assign [.Tuple [.Name x px, .Name y py] kt pt] (.Tuple [a, b] k2 pt2) pos) (tPar i j t) (mPar [i, j] m) := ⟨ps_par hc hN hi hj hij hx hy ha.p hw, rs_par ha.r⟩
theorem qs_lput {o i value : Expr} {pos' : Pos} {to ti tv : TE} {mo mi mv : ME} (ho : QE K X o to mo) (hi : QE K X i ti mi) (hv : QE K X value tv mv) (hs : swapsWithSole [.Subscript o i pos'] value pos.line X.env = pure false := by rfl) (hw : swappedStores [.Subscript o i pos'] value X.env = pure none := by rfl)
    (h1 : (assignEach [.Subscript o i pos'] X.env).map (·.2) = [assign (.Subscript o i pos') X.env] := by rfl)
    (ha : ∀ v, assign (.Subscript o i pos') X.env v = (do
      let ov <- holding [v] (eval o X.env)
      let iv <- holding [v, ov] (eval i X.env)
      standAt pos'
      holding [v, ov, iv] (setItem ov iv v)
      release [v, ov, iv] []) := by intro _; rfl) : QS K X (.Assign [.Subscript o i pos'] value pos) (tAsg tv (gSub to ti rSetL)) (mLPut mo mi mv) := ⟨ps_asg hv.p (pg_sub ho.p hi.p set_list ha) hs hw h1, rs_lput ho.r hi.r hv.r⟩
theorem qs_for {tg iter : Expr} {body : List Stmt} {wi : TI} {g : TG} {tb : TS} {mi : MI} {n : MG} {mb : MS} (hc : X.calm = true) (hi : QI K X tg iter wi mi) (hg : QG K X tg g n) (hb : QSs K X body tb mb) (hp : PassesOwn (model X.prog X.w) X.A X.env X.xe := by exact PassesOwn.never)
    (hs : ∀ x, foldedSetIterable iter X.env x = pure x := by intro _; rfl) : QS K X (.For tg iter body [] pos) (tFor wi g tb) (mFor mi n mb) := ⟨ps_for hp hc hi.p hg.p hb.p hs, rs_for hi.r hg.r hb.r⟩
theorem qs_while {body : List Stmt} {tb : TS} {mb : MS} (hc : QT K X c tA nA) (hb : QSs K X body tb mb) (hp : PassesOwn (model X.prog X.w) X.A X.env X.xe := by exact PassesOwn.never) : QS K X (.While c body [] pos) (tWhile tA tb) (mWhile nA mb) := ⟨ps_while hp hc.p hb.p, rs_while hc.r hb.r⟩
end
theorem ok_data {P : Program} {w : World} {K : PySem.W.Frag} {mg : Str -> Option Value} {base : Heap} {x : Str} {st : Stmt} {f : Addr} {fd : FuncData} {N ps : List Str} {j : Nat} {m : MS} (DA : DefAt K mg x st f fd ps) (S : FnScope N ps (defScope st))
    (h : ∀ (cdv : Value) (A : Around) (outer : List Env) (s : Shared) (H : Hp) (E : XK), Room j (A.deeper (envOfC x (defScope st) s.heap.objs.size f cdv)) -> ∃ t, QSs K (cxOf CX0 P w K mg base N x (defScope st) f cdv A outer s H E).nox (defBody st) t m) :
    FnOk P w K mg base CX0 (j + 1) f fd ps (spF K ps.length (mkF ps.length N.length m)) := by
  refine DA.fn.ok S (fun vs H Q E h => h.1) (fun cdv A outer s H vs Q E hr hs => ?_)
  obtain ⟨t, q⟩ := h cdv A outer s H E hr
  exact ⟨t, q.p, sp_body q.r hs⟩
end L2
namespace L2
open PySem PySem.Spec PyProof.Rows
section
variable {X : Cx} {pins : List (Addr × Obj)} {σ : List (Option V)} {H H' : Hp} {s : Shared} {h' : Heap}
theorem Inv.turns {tk : Nat} {fp : List Addr} (I : Inv X pins σ H s) (k : ∀ b o, b ∉ fp -> s.heap.get? b = some o -> h'.get? b = some o) (hf : ∀ b ∈ fp, FpOk X pins H b) : Inv X pins σ H { s with heap := h', toks := tk } := by
  have out : ∀ b u, H b = some u -> b ∉ fp := fun b u e z => by rw [(hf b z).1] at e; cases e
  have hL : X.env.locals ∉ fp := fun z => (hf _ z).2.1 rfl
  refine I.step (g' := s.gens) (d' := s.drawn) (ch := fp) (fun b hb => ⟨(hf b hb).2.2.2.1, (hf b hb).2.1, (hf b hb).2.2.2.2.1, (hf b hb).2.2.2.2.2⟩) (fun b o _ _ hc e _ => k b o hc e) (fun b o _ _ hc e _ => ⟨o.slots, k b o hc e⟩) (fun _ _ _ _ n => n)
    (fun b o hc e => ⟨o, k b o hc e⟩) (fun _ _ e => e) (fun _ _ _ e => e) (fun b ps e => ⟨#[], by rw [e]; simp⟩) (fun m hm => ?_) (fun b u e => ?_) I.bare
  · obtain ⟨o, es, ep, ho, r⟩ := hm
    exact ⟨o, es, ep, k _ o hL ho, r⟩
  · refine (I.hok b u e).stay (fun c v hc q => k c v ?_ q) (fun _ q => q) fun _ _ q => q
    rcases hc with z | z
    · rw [z]; exact out b u e
    · exact out c _ z
end
theorem Inv.turnsL {X : Cx} {pins : List (Addr × Obj)} {σ : List (Option V)} {H : Hp} {s : Shared} {h' : Heap} {tk : Nat} {fp : List Addr} {a : Addr} {o : HO} (I : Inv X pins σ H s) (k : ∀ b o, b ∉ fp -> s.heap.get? b = some o -> h'.get? b = some o) (hf : ∀ b ∈ fp, FpOk X pins H b) (ha : s.heap.objs.size <= a) (new : ObjOk X.prog X.w (upd H a o) h' a o) :
    Inv X pins σ (upd H a o) { s with heap := h', toks := tk } := by
  have out : ∀ b u, H b = some u -> b ∉ fp := fun b u e z => by rw [(hf b z).1] at e; cases e
  have hL : X.env.locals ∉ fp := fun z => (hf _ z).2.1 rfl
  have fr : H a = none := I.hok.fresh ha
  refine I.step (g' := s.gens) (d' := s.drawn) (ch := fp) (fun b hb => ⟨(hf b hb).2.2.2.1, (hf b hb).2.1, (hf b hb).2.2.2.2.1, (hf b hb).2.2.2.2.2⟩) (fun b o _ _ hc e _ => k b o hc e) (fun b o _ _ hc e _ => ⟨o.slots, k b o hc e⟩)
    (fun b o _ e n => by rw [upd_ne (Nat.ne_of_lt (Nat.lt_of_lt_of_le (Heap.lt_size e) ha))]; exact n) (fun b o hc e => ⟨o, k b o hc e⟩) (fun b xs e => by rw [upd_ne (ne_of_none e fr)]; exact e) (fun b o u e => by rw [upd_ne (ne_of_none e fr)]; exact e)
    (fun b ps e => ⟨#[], by rw [upd_ne (ne_of_none e fr), e]; simp⟩) (fun m hm => ?_) (fun b u e => ?_) I.bare
  · obtain ⟨o, es, ep, ho, r⟩ := hm
    exact ⟨o, es, ep, k _ o hL ho, r⟩
  · by_cases hb : b = a
    · subst hb; rw [upd_same] at e; cases e; exact new
    · rw [upd_ne hb] at e
      refine (I.hok b u e).stay (fun c v hc q => k c v ?_ q) (fun c q => by rw [upd_ne (ne_of_none q fr)]; exact q) fun c xs q => by rw [upd_ne (ne_of_none q fr)]; exact q
      rcases hc with z | z
      · rw [z]; exact out b u e
      · exact out c _ z
def RowI (tp : Bool) (h : Heap) (it l : Addr) (k : Nat) : Prop := match tp with
  | true => h.IsTupleIter it l k
  | false => h.IsListIter it l k
def RowL (tp : Bool) (h : Heap) (l : Addr) (xs : Array Value) : Prop := match tp with
  | true => h.IsTuple l xs
  | false => h.IsList l xs
theorem RowI.at {tp : Bool} {h h' : Heap} {it l : Addr} {k : Nat} (x : RowI tp h it l k) (e : ∀ o, h.get? it = some o -> h'.get? it = some o) : RowI tp h' it l k := by
  cases tp with
  | true => exact Heap.IsTupleIter.at x e
  | false => exact Heap.IsListIter.at x e
theorem RowL.at {tp : Bool} {h h' : Heap} {l : Addr} {xs : Array Value} (x : RowL tp h l xs) (e : ∀ o, h.get? l = some o -> h'.get? l = some o) : RowL tp h' l xs := by
  cases tp with
  | true => obtain ⟨o, e1, r⟩ := (show h.IsTuple l xs from x); exact ⟨o, e _ e1, r⟩
  | false => obtain ⟨o, e1, r⟩ := (show h.IsList l xs from x); exact ⟨o, e _ e1, r⟩
theorem RowI.obj {tp : Bool} {h : Heap} {it l : Addr} {k : Nat} (x : RowI tp h it l k) : ∃ o, h.get? it = some o /\ o.data = .fields #[.ref l, .int k 0] := by
  cases tp with
  | true => obtain ⟨o, e, _, d⟩ := (show h.IsTupleIter it l k from x); exact ⟨o, e, d⟩
  | false => obtain ⟨o, e, _, d⟩ := (show h.IsListIter it l k from x); exact ⟨o, e, d⟩
theorem RowL.obj {tp : Bool} {h : Heap} {l : Addr} {xs : Array Value} (x : RowL tp h l xs) : ∃ o n, h.get? l = some o /\ o.data = .seq xs n := by
  cases tp with
  | true => obtain ⟨o, e, _, n, d⟩ := (show h.IsTuple l xs from x); exact ⟨o, n, e, d⟩
  | false => obtain ⟨o, e, _, n, d⟩ := (show h.IsList l xs from x); exact ⟨o, n, e, d⟩
section
variable {prog : Program} {w : World} {A : Around} {E : Value -> Shared -> Prop} {s : Shared} {it l : Addr} {k : Nat} {xs : Array Value} {x : Value}
theorem tup_next (hit : s.heap.IsTupleIter it l k) (hl : s.heap.IsTuple l xs) (hx : xs[k]? = some x) {Q : Value -> Shared -> Prop} (hQ : ∀ g, g.IsTupleIter it l (k + 1) -> Heap.SameBut it s.heap g -> Q x { s with heap := g }) :
    wpAny (model prog w) A (Builtin.SmallTypes.nextOf (.ref it)) Q E s := by
  obtain ⟨o, eo, ec, ed⟩ := id hit
  obtain ⟨ol, el, _, nl, edl⟩ := hl
  unfold Builtin.SmallTypes.nextOf
  refine wpAny_bind (wpAny_callSpecial?_slot (name := Str.ofString "__next__") hit.typeIs PyProof.Rows.slot_tupleiter_next (wpAny_call_entry PyProof.Rows.slot_tupleiter_next hit.typeIs PyProof.Rows.entry_tupleiter_next ?_ (PyProof.Rows.args_tupleiter_next _)))
  show wpAny _ _ (field (.ref it) 0 >>= _) _ _ s
  refine wpAny_bind (wpAny_field eo ed (x := .ref l) rfl ?_)
  show wpAny _ _ (if (Value.ref l == Value.none) = true then _ else _) _ _ s
  rw [if_neg (show ¬ (Value.ref l == Value.none) = true from Bool.false_ne_true)]
  show wpAny _ _ (field (.ref it) 1 >>= _) _ _ s
  refine wpAny_bind (wpAny_field eo ed (x := .int k 0) rfl ?_)
  show wpAny _ _ (seqItems? (.ref l) >>= _) _ _ s
  refine wpAny_bind (wpAny_seqItems el edl ?_)
  simp only [Int.toNat_natCast, hx]
  refine wpAny_bind (wpAny_setField eo ed (by simp) (wpAny_pure ⟨x, rfl, wpAny_pure (hQ _ ⟨_, Heap.get?_update_self _ eo (Obj.isFreed_of_fields (Obj.data_mapFields ed _)), (Obj.cls_mapFields ..).trans ec, ?_⟩ (Heap.SameBut.update ..))⟩))
  rw [Obj.data_mapFields ed]; simp [rawInt]
theorem tup_stop (hh : A.handled = none) (hit : s.heap.IsTupleIter it l k) (hl : s.heap.IsTuple l xs) (hx : xs[k]? = none) {Q : Value -> Shared -> Prop} (hE : ∀ g e, Heap.ExtBut it s.heap g -> (∃ o, g.get? e = some o /\ o.cls = .type "StopIteration") -> E (.ref e) { s with heap := g }) :
    wpAny (model prog w) A (Builtin.SmallTypes.nextOf (.ref it)) Q E s := by
  obtain ⟨o, eo, ec, ed⟩ := id hit
  obtain ⟨ol, el, _, nl, edl⟩ := hl
  unfold Builtin.SmallTypes.nextOf
  refine wpAny_bind (wpAny_callSpecial?_slot (name := Str.ofString "__next__") hit.typeIs PyProof.Rows.slot_tupleiter_next (wpAny_call_entry PyProof.Rows.slot_tupleiter_next hit.typeIs PyProof.Rows.entry_tupleiter_next ?_ (PyProof.Rows.args_tupleiter_next _)))
  show wpAny _ _ (field (.ref it) 0 >>= _) _ _ s
  refine wpAny_bind (wpAny_field eo ed (x := .ref l) rfl ?_)
  show wpAny _ _ (if (Value.ref l == Value.none) = true then _ else _) _ _ s
  rw [if_neg (show ¬ (Value.ref l == Value.none) = true from Bool.false_ne_true)]
  show wpAny _ _ (field (.ref it) 1 >>= _) _ _ s
  refine wpAny_bind (wpAny_field eo ed (x := .int k 0) rfl ?_)
  show wpAny _ _ (seqItems? (.ref l) >>= _) _ _ s
  refine wpAny_bind (wpAny_seqItems el edl ?_)
  simp only [Int.toNat_natCast, hx]
  refine wpAny_bind (wpAny_rule (wpAny_bind (wpAny_setField eo ed (by simp) ?_)))
  show wpAny _ _ (newExc (.type "StopIteration") [] >>= _) _ _ _
  refine wpAny_bind ?_
  simp only [newExc, newTuple]
  refine wpAny_bind (wpAny_newObj_type ?_ (by size_fits))
  refine wpAny_bind (m := firstArgMember _ _) (wpAny_of_eq (a := Value.none) (by first | rfl | (simp only [firstArgMember]; rfl)) ?_)
  refine wpAny_newObj_type ?_ (by size_fits)
  simp only [raiseNew]
  refine wpAny_bind (wpAny_handled ?_)
  first | rw [show A.in1.handled = none from hh] | rw [hh]
  exact wpAny_bind (wpAny_pure (wpAny_throw (hE _ _ (((Heap.SameBut.update ..).extBut.push _).push _) ⟨_, Heap.get?_push_size _ rfl, rfl⟩)))
theorem row_next {tp : Bool} (hit : RowI tp s.heap it l k) (hl : RowL tp s.heap l xs) (hx : xs[k]? = some x) {Q : Value -> Shared -> Prop} (hQ : ∀ g, RowI tp g it l (k + 1) -> Heap.SameBut it s.heap g -> Q x { s with heap := g }) :
    wpAny (model prog w) A (Builtin.SmallTypes.nextOf (.ref it)) Q E s := by
  cases tp with
  | true => exact tup_next hit hl hx hQ
  | false => exact wpAny_nextOf_list_item hit hl hx hQ
theorem row_stop {tp : Bool} (hh : A.handled = none) (hit : RowI tp s.heap it l k) (hl : RowL tp s.heap l xs) (hx : xs[k]? = none) {Q : Value -> Shared -> Prop} (hE : ∀ g e, Heap.ExtBut it s.heap g -> (∃ o, g.get? e = some o /\ o.cls = .type "StopIteration") -> E (.ref e) { s with heap := g }) :
    wpAny (model prog w) A (Builtin.SmallTypes.nextOf (.ref it)) Q E s := by
  cases tp with
  | true => exact tup_stop hh hit hl hx hE
  | false => exact wpAny_nextOf_list_end hh hit hl hx hE
end
structure ZAt (t1 t2 : Bool) (h : Heap) (z a b i1 i2 l1 l2 : Addr) (f0 : Value) (j k : Nat) : Prop where
  z : IsZip h z a b f0
  p : IsPair h a (.ref i1) (.ref i2)
  o : ∃ u v, IsPair h b u v
  r1 : RowI t1 h i1 l1 j
  r2 : RowI t2 h i2 l2 k
structure ZNe (z a b i1 i2 l1 l2 : Addr) : Prop where
  az : a ≠ z
  bz : b ≠ z
  iz : i1 ≠ z
  jz : i2 ≠ z
  ab : a ≠ b
  ai : a ≠ i1
  aj : a ≠ i2
  bi : b ≠ i1
  bj : b ≠ i2
  ij : i1 ≠ i2
  lz : l1 ≠ z
  lb : l1 ≠ b
  li : l1 ≠ i1
  lj : l1 ≠ i2
  mz : l2 ≠ z
  mb : l2 ≠ b
  mi : l2 ≠ i1
  mj : l2 ≠ i2
section
variable {prog : Program} {w : World} {A : Around} {E : Value -> Shared -> Prop} {s : Shared} {t1 t2 : Bool} {z a b i1 i2 l1 l2 : Addr} {j k : Nat} {xs ys : Array Value} {x y : Value}
abbrev ZKeep (z b i1 i2 : Addr) (h h' : Heap) : Prop := ∀ c o, c ≠ z -> c ≠ b -> c ≠ i1 -> c ≠ i2 -> h.get? c = some o -> h'.get? c = some o
theorem zip_next (N : ZNe z a b i1 i2 l1 l2) (Z : ZAt t1 t2 s.heap z a b i1 i2 l1 l2 .none j k) (hl1 : RowL t1 s.heap l1 xs) (hl2 : RowL t2 s.heap l2 ys) (hx : xs[j]? = some x) (hy : ys[k]? = some y) {Q : Value -> Shared -> Prop}
    (hQ : ∀ g, ZAt t1 t2 g z a b i1 i2 l1 l2 (rawInt s.heap.objs.size) (j + 1) (k + 1) -> IsPair g s.heap.objs.size x y -> ZKeep z b i1 i2 s.heap g -> Q (.ref s.heap.objs.size) { s with heap := g }) :
    wpAny (model prog w) A (Builtin.«zip.__next__» ⟨[.ref z], []⟩) (fun fin s' => ∃ v, fin = .done (.ret v) /\ Q v s') E s := by
  obtain ⟨hz, hp, ⟨u, v, hb⟩, q1, q2⟩ := Z
  show wpAny _ _ (field (.ref z) 2 >>= _) _ _ _
  refine wpAny_bind (wpAny_field hz rfl (x := .bool false) rfl ?_)
  show wpAny _ _ (field (.ref z) 3 >>= _) _ _ _
  refine wpAny_bind (wpAny_field hz rfl (x := .ref a) rfl (wpAny_bind (wpAny_seqItems hp rfl ?_)))
  show wpAny _ _ (Builtin.SmallTypes.ownedTupleIsFree (.ref z) >>= _) _ _ _
  unfold Builtin.SmallTypes.ownedTupleIsFree
  refine wpAny_bind (wpAny_bind (wpAny_field hz rfl (x := .none) rfl (wpAny_pure ?_)))
  simp only [if_true]
  refine wpAny_bind (wpAny_rule (wpAny_bind (wpAny_field hz rfl (x := .ref b) rfl ?_)))
  refine wpAny_bind (wpAny_setField_rec hz (by simp) fun g1 z1 s1 => ?_)
  have z1 : IsZip g1 z a b .ellipsis := z1
  refine wpAny_bind ?_
  simp only [List.zipIdx_cons, List.zipIdx_nil, List.forIn_cons, List.forIn_nil]
  refine wpAny_bind (wpAny_bind (wpAny_onRaise ?_))
  show wpAny _ _ (Builtin.SmallTypes.nextOf (.ref i1) >>= _) _ _ _
  refine wpAny_bind (row_next (s := { s with heap := g1 }) (q1.at fun o e => s1.extBut _ _ N.iz e) (hl1.at fun o e => s1.extBut _ _ N.lz e) hx fun g2 r2 s2 => wpAny_pure ?_)
  have b2 : IsPair g2 b u v := s2.extBut _ _ N.bi (s1.extBut _ _ N.bz hb)
  refine wpAny_bind (wpAny_seqItems b2 rfl (wpAny_bind (wpAny_updateSeq_pair b2 fun g3 b3 s3 => ?_)))
  have b3 : IsPair g3 b x v := b3
  refine wpAny_bind (wpAny_letGo (wpAny_pure (wpAny_bind (wpAny_bind (wpAny_onRaise ?_)))))
  show wpAny _ _ (Builtin.SmallTypes.nextOf (.ref i2) >>= _) _ _ _
  have q3 : RowI t2 g3 i2 l2 k := q2.at fun o e => s3.extBut _ _ N.bj.symm (s2.extBut _ _ N.ij.symm (s1.extBut _ _ N.jz e))
  have m3 : RowL t2 g3 l2 ys := hl2.at fun o e => s3.extBut _ _ N.mb (s2.extBut _ _ N.mi (s1.extBut _ _ N.mz e))
  refine wpAny_bind (row_next (s := { s with heap := g3 }) q3 m3 hy fun g4 r4 s4 => wpAny_pure ?_)
  have b4 : IsPair g4 b x v := s4.extBut _ _ N.bj b3
  refine wpAny_bind (wpAny_seqItems b4 rfl (wpAny_bind (wpAny_updateSeq_pair b4 fun g5 b5 s5 => ?_)))
  have b5 : IsPair g5 b x y := b5
  refine wpAny_bind (wpAny_letGo (wpAny_pure (wpAny_pure (wpAny_bind (wpAny_seqItems b5 rfl (wpAny_bind (wpAny_newTuple ?_)))))))
  have sz : g5.objs.size = s.heap.objs.size := by rw [s5.1, s4.1, s3.1, s2.1, s1.1]
  have z5 : IsZip g5 z a b .ellipsis := s5.extBut _ _ N.bz.symm (s4.extBut _ _ N.jz.symm (s3.extBut _ _ N.bz.symm (s2.extBut _ _ N.iz.symm z1)))
  have kp : ZKeep z b i1 i2 s.heap g5 := fun c o c1 c2 c3 c4 e => s5.extBut _ _ c2 (s4.extBut _ _ c4 (s3.extBut _ _ c2 (s2.extBut _ _ c3 (s1.extBut _ _ c1 e))))
  have w1 : RowI t1 g5 i1 l1 (j + 1) := r2.at fun o e => s5.extBut _ _ N.bi.symm (s4.extBut _ _ N.ij (s3.extBut _ _ N.bi.symm e))
  have w2 : RowI t2 g5 i2 l2 (k + 1) := r4.at fun o e => s5.extBut _ _ N.bj.symm e
  have zlt := Heap.lt_size z5
  show wpAny _ _ (Builtin.SmallTypes.ownedTupleHandOut (.ref z) (.ref g5.objs.size) >>= _) _ _ _
  unfold Builtin.SmallTypes.ownedTupleHandOut
  have z6 : IsZip (g5.push { cls := .type "tuple", data := .seq #[x, y] }) z a b .ellipsis := Heap.get?_push_of_some _ z5
  refine wpAny_bind (wpAny_bind (wpAny_setField_rec z6 (by simp) fun g7 z7 s7 => ?_))
  have z7 : IsZip g7 z a b (rawInt g5.objs.size) := z7
  refine wpAny_setField_rec z7 (by simp) fun g8 z8 s8 => wpAny_pure ⟨_, rfl, ?_⟩
  have z8 : IsZip g8 z a b (rawInt g5.objs.size) := z8
  have up : ∀ c o, c ≠ z -> g5.get? c = some o -> g8.get? c = some o := fun c o c1 e => s8.extBut _ _ c1 (s7.extBut _ _ c1 (Heap.get?_push_of_some _ e))
  have t8 : IsPair g8 g5.objs.size x y := s8.extBut _ _ (Nat.ne_of_gt zlt) (s7.extBut _ _ (Nat.ne_of_gt zlt) (Heap.get?_push_size _ rfl))
  show Q (.ref g5.objs.size) _
  rw [sz] at z8 t8 ⊢
  exact hQ g8 ⟨z8, up _ _ N.az (kp _ _ N.az N.ab N.ai N.aj hp), ⟨_, _, up _ _ N.bz b5⟩, w1.at fun o e => up _ o N.iz e, w2.at fun o e => up _ o N.jz e⟩ t8 fun c o c1 c2 c3 c4 e => up c o c1 (kp c o c1 c2 c3 c4 e)
theorem zip_stop (hh : A.handled = none) (N : ZNe z a b i1 i2 l1 l2) (Z : ZAt t1 t2 s.heap z a b i1 i2 l1 l2 .none j k) (hl1 : RowL t1 s.heap l1 xs) (hl2 : RowL t2 s.heap l2 ys) (hend : xs[j]? = none ∨ ys[k]? = none) {Q : Fin -> Shared -> Prop}
    (hE : ∀ g e, ZKeep z b i1 i2 s.heap g -> (∃ o, g.get? e = some o /\ o.cls = .type "StopIteration") -> E (.ref e) { s with heap := g }) :
    wpAny (model prog w) A (Builtin.«zip.__next__» ⟨[.ref z], []⟩) Q E s := by
  obtain ⟨hz, hp, ⟨u, v, hb⟩, q1, q2⟩ := Z
  show wpAny _ _ (field (.ref z) 2 >>= _) _ _ _
  refine wpAny_bind (wpAny_field hz rfl (x := .bool false) rfl ?_)
  show wpAny _ _ (field (.ref z) 3 >>= _) _ _ _
  refine wpAny_bind (wpAny_field hz rfl (x := .ref a) rfl (wpAny_bind (wpAny_seqItems hp rfl ?_)))
  show wpAny _ _ (Builtin.SmallTypes.ownedTupleIsFree (.ref z) >>= _) _ _ _
  unfold Builtin.SmallTypes.ownedTupleIsFree
  refine wpAny_bind (wpAny_bind (wpAny_field hz rfl (x := .none) rfl (wpAny_pure ?_)))
  simp only [if_true]
  refine wpAny_bind (wpAny_rule (wpAny_bind (wpAny_field hz rfl (x := .ref b) rfl ?_)))
  refine wpAny_bind (wpAny_setField_rec hz (by simp) fun g1 z1 s1 => ?_)
  have z1 : IsZip g1 z a b .ellipsis := z1
  refine wpAny_bind ?_
  simp only [List.zipIdx_cons, List.zipIdx_nil, List.forIn_cons, List.forIn_nil]
  refine wpAny_bind (wpAny_bind (wpAny_onRaise ?_))
  show wpAny _ _ (Builtin.SmallTypes.nextOf (.ref i1) >>= _) _ _ _
  have o1 : RowI t1 g1 i1 l1 j := q1.at fun o e => s1.extBut _ _ N.iz e
  have m1 : RowL t1 g1 l1 xs := hl1.at fun o e => s1.extBut _ _ N.lz e
  cases hx : xs[j]? with
  | none =>
    refine wpAny_bind (row_stop (s := { s with heap := g1 }) hh o1 m1 hx fun g2 e s2 he => ?_)
    obtain ⟨oe, he1, he2⟩ := he
    have z2 : IsZip g2 z a b .ellipsis := s2 _ _ N.iz.symm z1
    have ne : e ≠ z := fun q => by subst q; rw [z2] at he1; cases he1; simp at he2
    exact wpAny_setField_rec z2 (by simp) fun g3 _ s3 => hE g3 e (fun c o c1 _ c3 _ q => s3.extBut _ _ c1 (s2 _ _ c3 (s1.extBut _ _ c1 q))) ⟨oe, s3.extBut _ _ ne he1, he2⟩
  | some x =>
    have hy : ys[k]? = none := by
      rcases hend with q | q
      · rw [hx] at q; cases q
      · exact q
    refine wpAny_bind (row_next (s := { s with heap := g1 }) o1 m1 hx fun g2 r2 s2 => wpAny_pure ?_)
    have b2 : IsPair g2 b u v := s2.extBut _ _ N.bi (s1.extBut _ _ N.bz hb)
    refine wpAny_bind (wpAny_seqItems b2 rfl (wpAny_bind (wpAny_updateSeq_pair b2 fun g3 b3 s3 => ?_)))
    refine wpAny_bind (wpAny_letGo (wpAny_pure (wpAny_bind (wpAny_bind (wpAny_onRaise ?_)))))
    show wpAny _ _ (Builtin.SmallTypes.nextOf (.ref i2) >>= _) _ _ _
    have q3 : RowI t2 g3 i2 l2 k := q2.at fun o e => s3.extBut _ _ N.bj.symm (s2.extBut _ _ N.ij.symm (s1.extBut _ _ N.jz e))
    have m3 : RowL t2 g3 l2 ys := hl2.at fun o e => s3.extBut _ _ N.mb (s2.extBut _ _ N.mi (s1.extBut _ _ N.mz e))
    refine wpAny_bind (row_stop (s := { s with heap := g3 }) hh q3 m3 hy fun g4 e s4 he => ?_)
    obtain ⟨oe, he1, he2⟩ := he
    have z4 : IsZip g4 z a b .ellipsis := s4 _ _ N.jz.symm (s3.extBut _ _ N.bz.symm (s2.extBut _ _ N.iz.symm z1))
    have ne : e ≠ z := fun q => by subst q; rw [z4] at he1; cases he1; simp at he2
    exact wpAny_setField_rec z4 (by simp) fun g5 _ s5 => hE g5 e (fun c o c1 c2 c3 c4 q => s5.extBut _ _ c1 (s4 _ _ c4 (s3.extBut _ _ c2 (s2.extBut _ _ c3 (s1.extBut _ _ c1 q))))) ⟨oe, s5.extBut _ _ ne he1, he2⟩
end
def SqS (K : PySem.W.Frag) (tp : Bool) (H : Hp) (a : Addr) (xs : List V) : Prop := match tp with
  | true => SqT K H a xs
  | false => SqL K H a xs
def Itz (K : PySem.W.Frag) (t1 t2 : Bool) (a b : Addr) : It :=
  ⟨fun i H => ∃ xs ys x y, SqS K t1 H a xs /\ SqS K t2 H b ys /\ xs[i]? = some x /\ ys[i]? = some y,
   fun i H x H' => ∃ p u v, H p = none /\ H' = upd H p (.tup [u, v]) /\ x = .ref p /\ (∀ xs, SqS K t1 H a xs -> xs[i]? = some u) /\ ∀ ys, SqS K t2 H b ys -> ys[i]? = some v,
   fun i H => ∃ xs ys, SqS K t1 H a xs /\ SqS K t2 H b ys /\ (xs.length <= i ∨ ys.length <= i)⟩
section
variable {X : Cx} {pins : List (Addr × Obj)} {σ : List (Option V)} {H : Hp} {s : Shared}
theorem Inv.row {tp : Bool} {a : Addr} {xs : List V} (I : Inv X pins σ H s) (h : SqS X.K tp H a xs) : ∃ its : List Value, Vals xs its /\ RowL tp s.heap a its.toArray /\ xs.length <= sizeLine := by
  cases tp with
  | true => obtain ⟨its, r, p, z⟩ := I.tuple h; exact ⟨its, r, (show s.heap.IsTuple a its.toArray from p), z⟩
  | false => obtain ⟨its, r, p, z⟩ := I.list h; exact ⟨its, r, p.isList, z⟩
theorem Inv.row_inj {tp : Bool} {a : Addr} {xs ys : List V} (I : Inv X pins σ H s) (h : SqS X.K tp H a xs) (h' : SqS X.K tp H a ys) : xs = ys := by
  cases tp with
  | true => exact I.tuple_inj h h'
  | false => exact I.list_inj h h'
end
theorem RowL.lt {tp : Bool} {h : Heap} {l : Addr} {xs : Array Value} (x : RowL tp h l xs) : l < h.objs.size := by
  obtain ⟨o, n, e, _⟩ := x.obj; exact Heap.lt_size e
theorem zip_go {M : Model} {A : Around} {E : Value -> Shared -> Prop} {s : Shared} {elts : List Expr} {x1} {pos : Pos} {z a b T : Addr} {Q : Unit -> Shared -> Prop} (hz : IsZip s.heap z a b (rawInt T)) {prog : Program} {w : World}
    (hQ : ∀ g, IsZip g z a b .none -> Heap.SameBut z s.heap g -> Q () { s with heap := g }) : wpAny (model prog w) A (letOwnedTupleGo (.Tuple elts x1 pos) (.ref z) (.ref T)) Q E s := wpAny_letOwnedTupleGo_zip hz hQ
theorem turn_zip {P : Program} {w : World} {K : PySem.W.Frag} {elts : List Expr} {kk : Nat} {tpos : Pos} {t1 t2 : Bool} {z a b i1 i2 l1 l2 : Addr} (N : ZNe z a b i1 i2 l1 l2) : Turn P w K (.Tuple elts kk tpos) (Itz K t1 t2 l1 l2) [z, a, b, i1, i2] z (fun i h => ZAt t1 t2 h z a b i1 i2 l1 l2 .none i i) where
  mem := by simp
  obj := fun i h st c hc => by
    obtain ⟨hz, hp, ⟨u, v, hb⟩, q1, q2⟩ := st
    simp only [List.mem_cons, List.not_mem_nil, or_false] at hc
    rcases hc with rfl | rfl | rfl | rfl | rfl
    · exact ⟨_, hz, fun v z => by cases (show Data.fields _ = Data.cell v from z)⟩
    · exact ⟨_, hp, fun v z => by cases (show Data.seq _ _ = Data.cell v from z)⟩
    · exact ⟨_, hb, fun v z => by cases (show Data.seq _ _ = Data.cell v from z)⟩
    · obtain ⟨o, e, d⟩ := q1.obj; exact ⟨o, e, fun v z => by rw [d] at z; cases z⟩
    · obtain ⟨o, e, d⟩ := q2.obj; exact ⟨o, e, fun v z => by rw [d] at z; cases z⟩
  keep := fun i h h' st k => by
    obtain ⟨hz, hp, ⟨u, v, hb⟩, q1, q2⟩ := st
    exact ⟨k z (by simp) _ hz, k a (by simp) _ hp, ⟨u, v, k b (by simp) _ hb⟩, q1.at fun o e => k i1 (by simp) o e, q2.at fun o e => k i2 (by simp) o e⟩
  item := by
    intro X hP hw hK hc i pins s σ H E I hf st hg
    subst hP hw hK
    obtain ⟨xs, ys, x, y, h1, h2, hx, hy⟩ := hg
    obtain ⟨ix, rx, px, zx⟩ := I.row h1
    obtain ⟨iy, ry, py, zy⟩ := I.row h2
    obtain ⟨u, hu, ru⟩ := rx.get hx
    obtain ⟨v, hv, rv⟩ := ry.get hy
    have hT : s.TypeIs (.ref z) "zip" := ⟨_, st.z, rfl⟩
    unfold pyNext
    refine wpAny_bind (wpAny_attempt (wpAny_callSpecial?_slot (name := Str.ofString "__next__") hT F.slot_zip_next (wpAny_call_entry F.slot_zip_next hT F.entry_zip_next
      (zip_next N st px py (x := u) (y := v) (by simpa using hu) (by simpa using hv) fun g Z g5 kp => wpAny_pure ⟨_, rfl, ?_⟩) (F.args_zip_next_1 _))))
    refine zip_go (M := model X.prog X.w) (s := { s with heap := g }) Z.z fun g' z' sb => ?_
    have kp2 : ∀ c o, c ∉ [z, a, b, i1, i2] -> s.heap.get? c = some o -> g'.get? c = some o := fun c o nc e => by
      simp only [List.mem_cons, List.not_mem_nil, or_false, not_or] at nc
      exact sb.extBut _ _ nc.1 (kp c o nc.1 nc.2.2.1 nc.2.2.2.1 nc.2.2.2.2 e)
    have hTz : s.heap.objs.size ≠ z := Nat.ne_of_gt (Heap.lt_size st.z)
    have hpair : IsPair g' s.heap.objs.size u v := sb.extBut _ _ hTz g5
    have fresh : H s.heap.objs.size = none := I.hok.fresh (Nat.le_refl _)
    have I2 : Inv X pins σ (upd H s.heap.objs.size (.tup [x, y])) { s with heap := g' } := I.turnsL (tk := s.toks) (o := .tup [x, y]) kp2 hf (Nat.le_refl _)
      (show ObjOk X.prog X.w _ g' _ (.tup [x, y]) from ⟨by show 2 <= sizeLine; decide, [u, v], .cons ru (.cons rv .nil), ⟨_, hpair, rfl, _, rfl⟩⟩)
    refine ⟨.ref s.heap.objs.size, _, I2, rfl, ⟨_, x, y, fresh, rfl, rfl, fun xs' q => by rw [I.row_inj q h1]; exact hx, fun ys' q => by rw [I.row_inj q h2]; exact hy⟩, ⟨z', ?_, ?_, ?_, ?_⟩, fun c hc => ?_⟩
    · exact sb.extBut _ _ N.az Z.p
    · obtain ⟨p, q, e⟩ := Z.o; exact ⟨p, q, sb.extBut _ _ N.bz e⟩
    · exact Z.r1.at fun o e => sb.extBut _ _ N.iz e
    · exact Z.r2.at fun o e => sb.extBut _ _ N.jz e
    · have lt : c < s.heap.objs.size := by
        obtain ⟨hz, hp, ⟨u, v, hb⟩, q1, q2⟩ := st
        simp only [List.mem_cons, List.not_mem_nil, or_false] at hc
        rcases hc with rfl | rfl | rfl | rfl | rfl
        · exact Heap.lt_size hz
        · exact Heap.lt_size hp
        · exact Heap.lt_size hb
        · obtain ⟨o, e, _⟩ := q1.obj; exact Heap.lt_size e
        · obtain ⟨o, e, _⟩ := q2.obj; exact Heap.lt_size e
      rw [upd_ne (Nat.ne_of_lt lt)]
      exact (hf c hc).1
  done := by
    intro X hP hw hK hc i pins s σ H E I hf st hg
    subst hP hw hK
    obtain ⟨xs, ys, h1, h2, hend⟩ := hg
    obtain ⟨ix, rx, px, zx⟩ := I.row h1
    obtain ⟨iy, ry, py, zy⟩ := I.row h2
    have l1' := rx.length
    have l2' := ry.length
    have hT : s.TypeIs (.ref z) "zip" := ⟨_, st.z, rfl⟩
    unfold pyNext
    refine wpAny_bind (wpAny_attempt (wpAny_callSpecial?_slot (name := Str.ofString "__next__") hT F.slot_zip_next (wpAny_call_entry F.slot_zip_next hT F.entry_zip_next
      (zip_stop (A := X.A.in1) (show X.A.in1.handled = none from I.ok.hd hc) N st px py (hend.imp (fun q => by simp; omega) fun q => by simp; omega) fun g e kp he => ?_) (F.args_zip_next_1 _))))
    obtain ⟨o, ho, hcl⟩ := he
    refine wpAny_bind (wpAny_isInstance (T := "StopIteration") (b := true) ⟨o, ho, hcl⟩ isSubtype_stop (wpAny_pure ⟨rfl, ?_⟩))
    exact I.turns (tk := s.toks) (fun c o nc e => by
      simp only [List.mem_cons, List.not_mem_nil, or_false, not_or] at nc
      exact kp c o nc.1 nc.2.2.1 nc.2.2.2.1 nc.2.2.2.2 e) hf
  self := fun _ _ _ _ _ st h => wpAny_pyIter_zip st.z h
end L2
namespace L2
open PySem PySem.Spec PyProof.Rows
abbrev itObj (tp : Bool) (l : Addr) : Obj := { cls := .type (match tp with | true => "tuple_iterator" | false => "list_iterator"), data := .fields #[.ref l, .int 0 0] }
abbrev zh1 (t1 : Bool) (h : Heap) (l1 : Addr) : Heap := h.push (itObj t1 l1)
abbrev zh2 (t1 t2 : Bool) (h : Heap) (l1 l2 : Addr) : Heap := (zh1 t1 h l1).push (itObj t2 l2)
abbrev zh3 (t1 t2 : Bool) (h : Heap) (l1 l2 : Addr) : Heap := (zh2 t1 t2 h l1 l2).push { cls := .type "tuple", data := .seq #[.ref h.objs.size, .ref (zh1 t1 h l1).objs.size] }
abbrev zh4 (t1 t2 : Bool) (h : Heap) (l1 l2 : Addr) : Heap := (zh3 t1 t2 h l1 l2).push { cls := .type "tuple", data := .seq #[.none, .none] }
abbrev zh5 (t1 t2 : Bool) (h : Heap) (l1 l2 : Addr) : Heap := (zh4 t1 t2 h l1 l2).push { cls := .type "zip", data := .fields #[.none, .bool false, .bool false, .ref (zh2 t1 t2 h l1 l2).objs.size, .ref (zh3 t1 t2 h l1 l2).objs.size] }
set_option maxHeartbeats 4000000 in
theorem zip_made (t1 t2 : Bool) (l1 l2 : Addr) (xs ys : Array Value) :
    Meets (Builtin.«zip.__new__» ⟨[.type "zip", .ref l1, .ref l2], []⟩) (fun _ R s => RowL t1 s.heap l1 xs /\ RowL t2 s.heap l2 ys /\ R (.ok (.ret (.ref (zh4 t1 t2 s.heap l1 l2).objs.size))) { s with heap := zh5 t1 t2 s.heap l1 l2 }) :=
  .of_wp fun prog w A R s h => by
    obtain ⟨hp, g, d, tk, os⟩ := s
    obtain ⟨q1, q2, h⟩ := h
    have hsub := sub_zip
    have q2' : RowL t2 (hp.push (itObj t1 l1)) l2 ys := q2.at fun o e => Heap.get?_push_of_some _ e
    cases t1 <;> cases t2
    · have p1 : Heap.IsList (Shared.heap ⟨hp, g, d, tk, os⟩) l1 xs := q1
      have p2 : Heap.IsList (Shared.heap ⟨hp.push (itObj false l1), g, d, tk, os⟩) l2 ys := q2'
      wp_walk using wpAny_pyIter_list p1, wpAny_pyIter_list p2
      exact ⟨_, rfl, h⟩
    · have p1 : Heap.IsList (Shared.heap ⟨hp, g, d, tk, os⟩) l1 xs := q1
      have p2 : Heap.IsTuple (Shared.heap ⟨hp.push (itObj false l1), g, d, tk, os⟩) l2 ys := q2'
      wp_walk using wpAny_pyIter_list p1, wpAny_pyIter_tuple p2
      exact ⟨_, rfl, h⟩
    · have p1 : Heap.IsTuple (Shared.heap ⟨hp, g, d, tk, os⟩) l1 xs := q1
      have p2 : Heap.IsList (Shared.heap ⟨hp.push (itObj true l1), g, d, tk, os⟩) l2 ys := q2'
      wp_walk using wpAny_pyIter_tuple p1, wpAny_pyIter_list p2
      exact ⟨_, rfl, h⟩
    · have p1 : Heap.IsTuple (Shared.heap ⟨hp, g, d, tk, os⟩) l1 xs := q1
      have p2 : Heap.IsTuple (Shared.heap ⟨hp.push (itObj true l1), g, d, tk, os⟩) l2 ys := q2'
      wp_walk using wpAny_pyIter_tuple p1, wpAny_pyIter_tuple p2
      exact ⟨_, rfl, h⟩
theorem zne_new {n l1 l2 : Addr} (h1 : l1 < n) (h2 : l2 < n) : ZNe (n + 4) (n + 2) (n + 3) n (n + 1) l1 l2 := by
  have k1 : @LT.lt Nat _ l1 n := h1
  have k2 : @LT.lt Nat _ l2 n := h2
  constructor <;> (intro z; have z : @Eq Nat _ _ := z; omega)
theorem row_new {tp : Bool} {h : Heap} {a l : Addr} (e : h.get? a = some (itObj tp l)) : RowI tp h a l 0 := by
  cases tp with
  | true => exact ⟨_, e, rfl, rfl⟩
  | false => exact ⟨_, e, rfl, rfl⟩
section
variable {prog : Program} {w : World} {A : Around} {E : Value -> Shared -> Prop} {s : Shared}
theorem zip_call {t1 t2 : Bool} {l1 l2 : Addr} {xs ys : Array Value} {Q : Value -> Shared -> Prop} (q1 : RowL t1 s.heap l1 xs) (q2 : RowL t2 s.heap l2 ys)
    (h : ∀ g, ZAt t1 t2 g (s.heap.objs.size + 4) (s.heap.objs.size + 2) (s.heap.objs.size + 3) s.heap.objs.size (s.heap.objs.size + 1) l1 l2 .none 0 0 -> (∀ c o, s.heap.get? c = some o -> g.get? c = some o) -> Q (.ref (s.heap.objs.size + 4)) { s with heap := g }) :
    wpAny (model prog w) A (call (.type "zip") [.ref l1, .ref l2]) Q E s := by
  refine callType_new F.called_zip (by decide) (F.typeCall_zip_2 _ _) (F.newCall_zip_2 _ _) (fun obj => F.args_object_init_3 obj _ _) F.entry_zip_new (zip_made t1 t2 l1 l2 xs ys) ⟨q1, q2, ?_⟩
  have n1 : (zh1 t1 s.heap l1).objs.size = s.heap.objs.size + 1 := Heap.size_push ..
  have n2 : (zh2 t1 t2 s.heap l1 l2).objs.size = s.heap.objs.size + 2 := by rw [Heap.size_push, n1]
  have n3 : (zh3 t1 t2 s.heap l1 l2).objs.size = s.heap.objs.size + 3 := by rw [Heap.size_push, n2]
  have n4 : (zh4 t1 t2 s.heap l1 l2).objs.size = s.heap.objs.size + 4 := by rw [Heap.size_push, n3]
  have up : ∀ {g : Heap} {c : Addr} {o x : Obj}, g.get? c = some o -> (g.push x).get? c = some o := fun e => Heap.get?_push_of_some _ e
  have e5 : (zh5 t1 t2 s.heap l1 l2).get? (zh4 t1 t2 s.heap l1 l2).objs.size = some _ := Heap.get?_push_size _ rfl
  have e4 : (zh5 t1 t2 s.heap l1 l2).get? (zh3 t1 t2 s.heap l1 l2).objs.size = some _ := up (Heap.get?_push_size _ rfl)
  have e3 : (zh5 t1 t2 s.heap l1 l2).get? (zh2 t1 t2 s.heap l1 l2).objs.size = some _ := up (up (Heap.get?_push_size _ rfl))
  have e2 : (zh5 t1 t2 s.heap l1 l2).get? (zh1 t1 s.heap l1).objs.size = some (itObj t2 l2) := up (up (up (Heap.get?_push_size _ (by cases t2 <;> rfl))))
  have e1 : (zh5 t1 t2 s.heap l1 l2).get? s.heap.objs.size = some (itObj t1 l1) := up (up (up (up (Heap.get?_push_size _ (by cases t1 <;> rfl)))))
  show _ /\ _
  rw [n2, n3, n4] at e5
  rw [n1, n2] at e3
  rw [n3] at e4
  rw [n1] at e2
  rw [n4]
  exact ⟨⟨_, e5, rfl⟩, h _ ⟨e5, e3, ⟨_, _, e4⟩, row_new e1, row_new e2⟩ fun c o x => up (up (up (up (up x))))⟩
end
def iZip (K : PySem.W.Frag) (t1 t2 : Bool) (ta : TA) : TI := fun σ H R => ta σ H fun vs H1 => ∃ a b xs ys, vs = [.ref a, .ref b] /\ SqS K t1 H1 a xs /\ SqS K t2 H1 b ys /\ R (Itz K t1 t2 a b) H1
section
variable {X : Cx}
theorem pi_zip {t1 t2 : Bool} {a b : Expr} {ta : TA} {elts : List Expr} {kk : Nat} {tpos p pos : Pos} (hg : Gl X "zip") (hm : X.mg "zip" = none) (ha : PA X [a, b] ta) (hs : starEach [a, b] X.env = [(false, eval a X.env), (false, eval b X.env)] := by rfl) (hs2 : starEach [b] X.env = [(false, eval b X.env)] := by rfl) :
    PI X (.Tuple elts kk tpos) (.Call (.Name "zip" p) [a, b] [] pos) (iZip X.K t1 t2 ta) := by
  intro pins s σ H R I h
  refine Call_ (ld_blt I hg hm boot_zip (PyProof.Rows.callWith_type1 (thn (ha pos pins s σ H _ I h) fun us s1 ⟨vs, H1, I1, r1, q1⟩ => ?_) (by rw [hs, hs2]) (by rw [hs2]; rfl)))
  obtain ⟨l1, l2, xs, ys, e, c1, c2, q⟩ := q1
  subst e
  obtain ⟨u, v, rfl, ru, rv⟩ := vals2 r1
  cases ru
  cases rv
  obtain ⟨ix, rx, px, zx⟩ := I1.row c1
  obtain ⟨iy, ry, py, zy⟩ := I1.row c2
  refine zip_call px py fun g Z kp => wpAny_pyIter_zip Z.z ?_
  refine ⟨_, _, _, _, H1, rfl, I1.kept (t' := s1.toks) kp, turn_zip (zne_new px.lt py.lt), Z, fun c hc => ?_, q⟩
  simp only [List.mem_cons, List.not_mem_nil, or_false] at hc
  have le : s1.heap.objs.size <= c := by
    rcases hc with rfl | rfl | rfl | rfl | rfl
    · exact Nat.le_add_right _ _
    · exact Nat.le_add_right _ _
    · exact Nat.le_add_right _ _
    · exact Nat.le_refl _
    · exact Nat.le_add_right _ _
  exact I1.fpOk le (I1.hok.fresh le)
theorem pi_zipK (K : PySem.W.Frag) {t1 t2 : Bool} {a b : Expr} {ta : TA} {elts : List Expr} {kk : Nat} {tpos p pos : Pos} (hg : Gl X "zip") (hm : X.mg "zip" = none) (ha : PA X [a, b] ta) (hK : X.K = K := by rfl) (hs : starEach [a, b] X.env = [(false, eval a X.env), (false, eval b X.env)] := by rfl) (hs2 : starEach [b] X.env = [(false, eval b X.env)] := by rfl) :
    PI X (.Tuple elts kk tpos) (.Call (.Name "zip" p) [a, b] [] pos) (iZip K t1 t2 ta) := by subst hK; exact pi_zip hg hm ha hs hs2
end
def Stays (K : PySem.W.Frag) (ρ : List Addr) (H : Hp) (tp : Bool) (a : Addr) (ds : List D) (g : Gd) : Prop := ∀ (ρ2 : List Addr) (H2 : Hp) (hd2 : Hd), Ext ρ H ρ2 H2 -> RH K ρ2 H2 hd2 -> GOk hd2 g -> ∃ xs, SqS K tp H2 a xs /\ RDs K ρ2 H2 ds xs
def RRw (K : PySem.W.Frag) (tp : Bool) (t : TE) (m : MI) : Prop := ∀ (ρ : List Addr) (σ : St) (H : Hp) (hd : Hd) (ls : Ls) (Q : VK) (d : List D) (g : Gd) (hd' : Hd), RH K ρ H hd -> RL K ρ H ls σ -> m ls hd = some ((d, g), hd') ->
  (∀ ρ' H' a, Ext ρ H ρ' H' -> RH K ρ' H' hd' -> GOk hd' g -> Stays K ρ' H' tp a d g -> Q (.ref a) H') -> t σ H Q
structure QR (K : PySem.W.Frag) (tp : Bool) (X : Cx) (e : Expr) (t : TE) (m : MI) : Prop where
  p : PE X e t
  r : RRw K tp t m
section
variable {K : PySem.W.Frag} {ρ ρ' : List Addr} {H H' : Hp} {hd hd' : Hd}
theorem rw_tup {t : TE} {m : ME} (h : RE K t m) : RRw K true t (mItT m) := by
  intro ρ σ H hd ls Q d g hd' hR hL hm hQ
  obtain ⟨⟨d1, h1⟩, e1, hm⟩ := Option.bind_eq_some_iff.mp hm
  obtain ⟨ds, e2, e3⟩ := Option.map_eq_some_iff.mp hm
  cases e3
  refine h ρ σ H hd ls _ d1 _ hR hL e1 fun ρ1 H1 v x1 R1 r1 => ?_
  obtain ⟨a, xs, rfl, q, r⟩ := r1.tup e2
  exact hQ ρ1 H1 a x1 R1 (gok_nil _) fun ρ2 H2 hd2 x2 R2 _ => ⟨xs, (x2.grow R1).sq q, r.ext R1 x2⟩
theorem rw_list {t : TE} {m : ME} (h : RE K t m) : RRw K false t (mItL m) := by
  intro ρ σ H hd ls Q d g hd' hR hL hm hQ
  obtain ⟨⟨d1, h1⟩, e1, hm⟩ := Option.bind_eq_some_iff.mp hm
  dsimp only at hm
  split at hm
  · next n =>
    split at hm
    · next ds q =>
      cases hm
      refine h ρ σ H hd ls _ _ _ hR hL e1 fun ρ1 H1 v x1 R1 r1 => ?_
      simp only [RD] at r1
      obtain ⟨a, hn, rfl⟩ := r1
      refine hQ ρ1 H1 a x1 R1 (fun p z => by simp at z; subst z; exact q) fun ρ2 H2 hd2 x2 R2 G2 => ?_
      have hn2 : ρ2[n]? = some a := by
        obtain ⟨r, rfl, _⟩ := x2.pre
        rw [List.getElem?_append_left (List.getElem?_eq_some_iff.mp hn).1]; exact hn
      obtain ⟨ys, e4, e5⟩ := R2.lst hn2 (G2 (n, d) (by simp))
      exact ⟨ys, SqL.of e4, e5⟩
    · cases hm
  · next ns =>
    cases hm
    refine h ρ σ H hd ls _ _ _ hR hL e1 fun ρ1 H1 v x1 R1 r1 => ?_
    simp only [RD] at r1
    obtain ⟨a, rfl, q⟩ := r1
    exact hQ ρ1 H1 a x1 R1 (gok_nil _) fun ρ2 H2 hd2 x2 R2 _ => ⟨_, (q.grow (x2.grow R1)).sq, ints_rd⟩
  · cases hm
open Classical in
noncomputable def mZip (ma mb : MI) : MI := fun ls hd => (ma ls hd).bind fun p => (mb ls p.2).bind fun q => if GOk q.2 p.1.2 then some ((List.zipWith (fun x y => mkTup [x, y]) p.1.1 q.1.1, p.1.2 ++ q.1.2), q.2) else none
theorem ri_zip {t1 t2 : Bool} {ta tb : TE} {ma mb : MI} (ha : RRw K t1 ta ma) (hb : RRw K t2 tb mb) : RIt K (iZip K t1 t2 (tCons ta (tCons tb tNil))) (mZip ma mb) := by
  intro ρ σ H hd ls Q d g hd' hR hL hm hQ
  obtain ⟨⟨⟨d1, g1⟩, h1⟩, e1, hm⟩ := Option.bind_eq_some_iff.mp hm
  obtain ⟨⟨⟨d2, g2⟩, h2⟩, e2, hm⟩ := Option.bind_eq_some_iff.mp hm
  dsimp only at hm
  split at hm
  · next gk =>
    cases hm
    refine ha ρ σ H hd ls _ d1 g1 h1 hR hL e1 fun ρ1 H1 a x1 R1 G1 S1 => ?_
    refine hb ρ1 σ H1 h1 ls _ d2 g2 _ R1 (hL.ext hR x1) e2 fun ρ2 H2 b x2 R2 G2 S2 => ?_
    obtain ⟨xs, c1, r1⟩ := S1 ρ2 H2 _ x2 R2 gk
    obtain ⟨ys, c2, r2⟩ := S2 ρ2 H2 _ .refl R2 G2
    refine ⟨a, b, xs, ys, rfl, c1, c2, hQ ρ2 H2 _ (x1.trans R1 x2) R2 (fun p hp => (List.mem_append.mp hp).elim (gk p) (G2 p)) ?_⟩
    intro ρ3 H3 hd3 x3 R3 G3 i
    obtain ⟨xs, c1, r1⟩ := S1 ρ3 H3 _ (x2.trans R2 x3) R3 fun p hp => G3 p (List.mem_append_left _ hp)
    obtain ⟨ys, c2, r2⟩ := S2 ρ3 H3 _ x3 R3 fun p hp => G3 p (List.mem_append_right _ hp)
    have l1 := r1.len; have l2 := r2.len
    refine ⟨fun hi => ?_, fun hi => ⟨xs, ys, c1, c2, ?_⟩⟩
    · simp only [List.length_zipWith] at hi
      have i1 : d1[i]? = some (d1[i]'(by omega)) := List.getElem?_eq_getElem _
      have i2 : d2[i]? = some (d2[i]'(by omega)) := List.getElem?_eq_getElem _
      obtain ⟨x, x4, x5⟩ := r1.get i1
      obtain ⟨y, y4, y5⟩ := r2.get i2
      refine ⟨⟨xs, ys, x, y, c1, c2, x4, y4⟩, fun z H4 hz => ?_⟩
      obtain ⟨p, u, v, fp, rfl, rfl, hu, hv⟩ := hz
      have eu := hu xs c1; rw [x4] at eu; cases eu
      have ev := hv ys c2; rw [y4] at ev; cases ev
      obtain ⟨R4, x6⟩ := R3.hid (ho := .tup [x, y]) fp
      refine ⟨ρ3, mkTup [d1[i]'(by omega), d2[i]'(by omega)], x6, rfl, R4, ?_, rd_mkTup (SqT.of upd_same) (.cons (x5.ext R3 x6) (.cons (y5.ext R3 x6) .nil))⟩
      simp [List.getElem?_zipWith, i1, i2]
    · simp only [List.length_zipWith] at hi
      omega
  · cases hm
end
section
variable (K : PySem.W.Frag) {X : Cx} {a b e : Expr} {ta tb te : TE} {me : ME} {m : MA}
theorem qr_tup (h : QE K X e te me) : QR K true X e te (mItT me) := ⟨h.p, rw_tup h.r⟩
theorem qr_list (h : QE K X e te me) : QR K false X e te (mItL me) := ⟨h.p, rw_list h.r⟩
theorem qi_zip {t1 t2 : Bool} {ma mb : MI} {elts : List Expr} {kk : Nat} {tpos p pos : Pos} (hm : X.mg "zip" = none) (ha : QR K t1 X a ta ma) (hb : QR K t2 X b tb mb) (hg : Gl X "zip" := by rfl) (hK : X.K = K := by rfl) (hs : starEach [a, b] X.env = [(false, eval a X.env), (false, eval b X.env)] := by rfl) (hs2 : starEach [b] X.env = [(false, eval b X.env)] := by rfl) :
    QI K X (.Tuple elts kk tpos) (.Call (.Name "zip" p) [a, b] [] pos) (iZip K t1 t2 (tCons ta (tCons tb tNil))) (mZip ma mb) := ⟨pi_zipK K hg hm (pa_cons ha.p (pa_cons hb.p pa_nil hs2) (by rw [hs, hs2])) hK hs hs2, ri_zip ha.r hb.r⟩
end
section
variable {K : PySem.W.Frag}
def mIxH (ml : MA) (mb : ME) : ME := fun ls hd => (ml ls hd).bind fun p => (mb ls p.2).bind fun q => match q.1 with
  | .im (.int i) => (atI p.1 i).map (·, q.2)
  | _ => none
theorem re_ixH {ta tb : TE} {ml : MA} {mb : ME} (ha : RN K ta ml) (hb : RE K tb mb) : RE K (tOp (rIxLT K) ta tb) (mIxH ml mb) := by
  intro ρ σ H hd ls Q d hd' hR hL hm hQ
  obtain ⟨⟨d1, h1⟩, e1, hm⟩ := Option.bind_eq_some_iff.mp hm
  obtain ⟨⟨d2, h2⟩, e2, hm⟩ := Option.bind_eq_some_iff.mp hm
  dsimp only at hm
  split at hm
  · obtain ⟨w, e3, e4⟩ := Option.map_eq_some_iff.mp hm
    cases e4
    refine ha ρ σ H hd ls _ d1 h1 hR hL e1 fun ρ1 H1 a xs x1 R1 na oa ea r1 => ?_
    refine hb ρ1 σ H1 h1 ls _ _ _ R1 (hL.ext hR x1) e2 fun ρ2 H2 v2 x2 R2 r2 => ?_
    simp only [RD, RI] at r2
    subst r2
    have r1' := r1.ext R1 x2
    obtain ⟨j, j1, j2⟩ := atI_len r1'.len e3
    obtain ⟨x, y1, y2⟩ := r1'.get j1
    exact .inl ⟨a, xs, _, x, rfl, rfl, SqL.of (x2.keep a _ ea oa), j2 x y1, hQ ρ2 H2 x (x1.trans R1 x2) R2 y2⟩
  · cases hm
def eqvP (neg : Bool) (x y : PyData) (hd : Hd) : Option (D × Hd) := if x.canLay0 = true /\ y.canLay0 = true /\ min x.depth y.depth <= 60 then some (.im (.bl (if neg then !PyData.eqv x y else PyData.eqv x y)), hd) else none
def mEqEN (neg : Bool) (ma : ME) (ml : MA) : ME := fun ls hd => (ma ls hd).bind fun p => (ml ls p.2).bind fun q => (pyD q.2 p.1).bind fun x => (allIm q.1).bind fun is => eqvP neg x (.list (I.pys is)) q.2
def mEqNN (neg : Bool) (ml mk : MA) : ME := fun ls hd => (ml ls hd).bind fun p => (mk ls p.2).bind fun q => (allIm p.1).bind fun is => (allIm q.1).bind fun js => eqvP neg (.list (I.pys is)) (.list (I.pys js)) q.2
def rEN (K : PySem.W.Frag) (neg : Bool) : R2 := fun x y H Q => ∃ d e, Rep K H d x /\ Rep K H e y /\ d.canLay0 = true /\ e.canLay0 = true /\ min d.depth e.depth <= 60 /\ Q (.bl (if neg then !PyData.eqv d e else PyData.eqv d e)) H
theorem rep_hid {ρ : List Addr} {H : Hp} {a : Addr} {xs : List V} {ds : List D} {is : List I} (ea : H a = some (.lst xs)) (r : RDs K ρ H ds xs) (e : allIm ds = some is) : Rep K H (.list (I.pys is)) (.ref a) := by
  rw [allIm_eq e] at r
  simp only [Rep]
  exact ⟨a, xs, rfl, SqL.of ea, r.is.rep⟩
theorem re_eqEN {neg : Bool} {ta tb : TE} {ma : ME} {ml : MA} (ha : RE K ta ma) (hb : RN K tb ml) : RE K (tOp (rEN K neg) ta tb) (mEqEN neg ma ml) := by
  intro ρ σ H hd ls Q d hd' hR hL hm hQ
  obtain ⟨⟨d1, h1⟩, e1, hm⟩ := Option.bind_eq_some_iff.mp hm
  obtain ⟨⟨d2, h2⟩, e2, hm⟩ := Option.bind_eq_some_iff.mp hm
  obtain ⟨x, e3, hm⟩ := Option.bind_eq_some_iff.mp hm
  obtain ⟨is, e4, hm⟩ := Option.bind_eq_some_iff.mp hm
  unfold eqvP at hm
  split at hm
  · next c =>
    cases hm
    refine ha ρ σ H hd ls _ d1 h1 hR hL e1 fun ρ1 H1 v x1 R1 r1 => ?_
    refine hb ρ1 σ H1 h1 ls _ d2 _ R1 (hL.ext hR x1) e2 fun ρ2 H2 a xs x2 R2 na oa ea r2 => ?_
    exact ⟨_, _, pyD_rep R2 (r1.ext R1 x2) e3, rep_hid ea r2 e4, c.1, c.2.1, c.2.2, hQ ρ2 H2 _ (x1.trans R1 x2) R2 (by simp [RD, RI])⟩
  · cases hm
theorem re_eqNN {neg : Bool} {ta tb : TE} {ml mk : MA} (ha : RN K ta ml) (hb : RN K tb mk) : RE K (tOp (rEN K neg) ta tb) (mEqNN neg ml mk) := by
  intro ρ σ H hd ls Q d hd' hR hL hm hQ
  obtain ⟨⟨d1, h1⟩, e1, hm⟩ := Option.bind_eq_some_iff.mp hm
  obtain ⟨⟨d2, h2⟩, e2, hm⟩ := Option.bind_eq_some_iff.mp hm
  obtain ⟨is, e4, hm⟩ := Option.bind_eq_some_iff.mp hm
  obtain ⟨js, e3, hm⟩ := Option.bind_eq_some_iff.mp hm
  unfold eqvP at hm
  split at hm
  · next c =>
    cases hm
    refine ha ρ σ H hd ls _ d1 h1 hR hL e1 fun ρ1 H1 a xs x1 R1 na oa ea r1 => ?_
    refine hb ρ1 σ H1 h1 ls _ d2 _ R1 (hL.ext hR x1) e2 fun ρ2 H2 b ys x2 R2 nb ob eb r2 => ?_
    exact ⟨_, _, rep_hid (x2.keep a _ ea oa) (r1.ext R1 x2) e4, rep_hid eb r2 e3, c.1, c.2.1, c.2.2, hQ ρ2 H2 _ (x1.trans R1 x2) R2 (by simp [RD, RI])⟩
  · cases hm
end
theorem op_neH (K : PySem.W.Frag) {X : Cx} (hu : X.A.units + 64 < cLine) (hK : X.K = K := by rfl) : OpR X (compareOp .NotEq) (rEN K true) := op_neDK K hu hK
section
variable (K : PySem.W.Frag) {X : Cx} {a b e : Expr} {ta tb te : TE} {ma mb me : ME} {m mk : MA} {pos : Pos} {op : CmpOp} {neg : Bool}
theorem qe_ixH (ha : QN K X a ta m) (hb : QE K X b tb mb) (hs : PlainIx b := by exact fun _ _ => rfl) (hK : X.K = K := by rfl) : QE K X (.Subscript a b pos) (tOp (rIxLT K) ta tb) (mIxH m mb) := ⟨pe_ix ((ix_listK K hK).or (ix_tupK K hK)) ha.p hb.p hs, re_ixH ha.r hb.r⟩
theorem qt_eqEN (ho : OpR X (compareOp op) (rEN K neg)) (ha : QE K X a ta ma) (hb : QN K X b tb m) (hm : behindInMarks op b = false := by first | exact nomark _ | rfl) : QT K X (.Compare a [op] [b] pos) (tTest (tOp (rEN K neg) ta tb)) (mTest (mEqEN neg ma m)) := ⟨pt_cmpR ho ha.p hb.p hm, rt_test (re_eqEN ha.r hb.r)⟩
theorem qt_eqNN (ho : OpR X (compareOp op) (rEN K neg)) (ha : QN K X a ta m) (hb : QN K X b tb mk) (hm : behindInMarks op b = false := by first | exact nomark _ | rfl) : QT K X (.Compare a [op] [b] pos) (tTest (tOp (rEN K neg) ta tb)) (mTest (mEqNN neg m mk)) := ⟨pt_cmpR ho ha.p hb.p hm, rt_test (re_eqNN ha.r hb.r)⟩
end
end L2
namespace L2
open PySem PySem.Spec PyProof.Rows
def rangeV (lo : Int) : Nat -> List V
  | 0 => []
  | n + 1 => .int lo :: rangeV (lo + 1) n
theorem rangeV_len (lo : Int) (n : Nat) : (rangeV lo n).length = n := by
  induction n generalizing lo with
  | zero => rfl
  | succ n ih => simp [rangeV, ih]
theorem range_rd {K : PySem.W.Frag} {ρ : List Addr} {H : Hp} (lo : Int) (n : Nat) : RDs K ρ H (rangeD lo n) (rangeV lo n) := by
  induction n generalizing lo with
  | zero => simp [rangeD, rangeV, RDs]
  | succ n ih => exact .cons (by simp [RD, RI]) (ih _)
theorem range_vals {lo : Int} : ∀ {n : Nat} {us : List Value}, us.length = n -> (∀ (j : Nat) (v : Value), us[j]? = some v -> ∃ t, v = .int (lo + j * 1) t) -> Vals (rangeV lo n) us
  | 0, us, h, _ => by
    have : us = [] := List.length_eq_zero_iff.mp h
    subst this; exact .nil
  | n + 1, [], h, _ => by simp at h
  | n + 1, u :: us, h, k => by
    obtain ⟨t, e⟩ := k 0 u rfl
    refine .cons ⟨t, by rw [e]; simp⟩ (range_vals (by simpa using h) fun j v q => ?_)
    obtain ⟨t', e'⟩ := k (j + 1) v (by simpa using q)
    exact ⟨t', by rw [e']; congr 1; push_cast; omega⟩
section
variable {prog : Program} {w : World} {A : Around} {E : Value -> Shared -> Prop} {s : Shared}
end
def rRange1 : List V -> Hp -> VK -> Prop := fun xs H Q => ∃ j : Int, xs = [.int j] /\ ∀ p, H p = none -> Q (.ref p) (upd H p (.rng 0 j))
def rRange2 : List V -> Hp -> VK -> Prop := fun xs H Q => ∃ i j : Int, xs = [.int i, .int j] /\ ∀ p, H p = none -> Q (.ref p) (upd H p (.rng i j))
def rListR : List V -> Hp -> VK -> Prop := fun xs H Q => ∃ a lo hi, xs = [.ref a] /\ H a = some (.rng lo hi) /\ (-(2 ^ 62) <= lo /\ lo < 2 ^ 62 /\ -(2 ^ 62) <= hi /\ hi < 2 ^ 62) /\ (hi - lo).toNat <= 2 ^ 24 /\ ∀ p, H p = none -> Q (.ref p) (upd H p (.lst (rangeV lo (hi - lo).toNat)))
section
variable {X : Cx}
theorem call_rng1 : CallR X (.type "range") rRange1 := by
  intro pins s σ H xs us Q I r h
  obtain ⟨j, rfl, q⟩ := h
  obtain ⟨u, rfl, t, rfl⟩ := vals1 r
  exact call_range_1 ⟨.ref s.heap.objs.size, _, I.laid (a := s.heap.objs.size) (o := .rng 0 j) (fun b o e => Heap.get?_push_of_some _ e) (Nat.le_refl _) ⟨_, _, _, Heap.get?_push_size _ rfl⟩, rfl, q _ (I.hok.fresh (Nat.le_refl _))⟩
theorem call_rng2 : CallR X (.type "range") rRange2 := by
  intro pins s σ H xs us Q I r h
  obtain ⟨i, j, rfl, q⟩ := h
  obtain ⟨u, v, rfl, ⟨t, rfl⟩, ⟨t', rfl⟩⟩ := vals2 r
  exact call_range_2 ⟨.ref s.heap.objs.size, _, I.laid (a := s.heap.objs.size) (o := .rng i j) (fun b o e => Heap.get?_push_of_some _ e) (Nat.le_refl _) ⟨_, _, _, Heap.get?_push_size _ rfl⟩, rfl, q _ (I.hok.fresh (Nat.le_refl _))⟩
theorem rsize {lo hi : Int} : Builtin.Range.rangeSize lo hi 1 = ((hi - lo).toNat : Nat) := by rw [rangeSize_one]; split <;> omega
theorem items_vals {lo : Int} {n : Nat} {acc : Array Value} (it : ItemsOf (fun i v => ∃ t, v = .int (lo + i * 1) t) acc n) : Vals (rangeV lo n) acc.toList := range_vals (by simpa using it.1) fun j v q => it.2 j v (by simpa using q)
theorem call_listR (hc : X.calm = true) : CallR X (.type "list") rListR := by
  intro pins s σ H xs us Q I r h
  obtain ⟨a, lo, hi, rfl, ha, ⟨b1, b2, b3, b4⟩, hz, q⟩ := h
  obtain ⟨u, rfl, ru⟩ := vals1 r
  cases ru
  obtain ⟨t, u, v, hr⟩ : ∃ t u v, s.heap.get? a = some { cls := .type "range", data := .fields #[.int lo t, .int hi u, .int 1 v] } := I.hok a _ ha
  refine call_list_range (I.ok.hd hc) hr (small_one b1 b2 b3 b4) rsize hz fun g tk acc c' kp e it => ?_
  exact ⟨.ref s.heap.objs.size, _, I.laid (t' := tk) (o := .lst _) kp (Nat.le_refl _) ⟨by rw [rangeV_len, sizeLine_eq]; omega, acc.toList, c', items_vals it, by simpa using e⟩, rfl, q _ (I.hok.fresh (Nat.le_refl _))⟩
end
section
variable {K : PySem.W.Frag}
open Classical in
noncomputable def mRng (m : MA) : MA := fun ls hd => (m ls hd).bind fun p => match p.1 with
  | [.im (.int j)] => if rngL1 j then some (rangeD 0 j.toNat, p.2) else none
  | [.im (.int i), .im (.int j)] => if rngL2 i j then some (rangeD i (j - i).toNat, p.2) else none
  | _ => none
def rRange : List V -> Hp -> VK -> Prop := fun xs H Q => rRange1 xs H Q ∨ rRange2 xs H Q
theorem rn_listR {t : TA} {m : MA} (h : RA K t m) : RN K (tCB rListR (tCons (tCB rRange t) tNil)) (mRng m) := by
  intro ρ σ H hd ls Q d hd' hR hL hm hQ
  obtain ⟨⟨d1, h1⟩, e1, hm⟩ := Option.bind_eq_some_iff.mp hm
  dsimp only at hm
  refine h ρ σ H hd ls _ d1 h1 hR hL e1 fun ρ1 H1 v x1 R1 r1 => ?_
  split at hm
  · next j =>
    split at hm
    · next c =>
      have c : j < 2 ^ 24 /\ -(2 ^ 62) <= j := c
      cases hm
      simp only [RDs, RD, RI] at r1
      obtain ⟨x, r, rfl, rfl, rfl⟩ := r1
      refine .inl ⟨j, rfl, fun p hp => ⟨p, 0, j, rfl, upd_same, ⟨by decide, by decide, c.2, by omega⟩, by omega, fun l hl => ?_⟩⟩
      obtain ⟨R2, x2⟩ := R1.hid (ho := .rng 0 j) hp
      obtain ⟨R3, x3⟩ := R2.hid (ho := .lst (rangeV 0 (j - 0).toNat)) hl
      refine hQ ρ1 _ l (rangeV 0 (j - 0).toNat) ((x1.trans R1 x2).trans R2 x3) R3 ((x1.trans R1 x2).none hR hl R2) (R2.out hl) upd_same ?_
      rw [Int.sub_zero]; exact range_rd 0 _
    · cases hm
  · next i j =>
    split at hm
    · next c =>
      cases hm
      simp only [RDs, RD, RI] at r1
      obtain ⟨x, r, rfl, rfl, y, r2, rfl, rfl, rfl⟩ := r1
      refine .inr ⟨i, j, rfl, fun p hp => ⟨p, i, j, rfl, upd_same, ⟨c.1.1, c.1.2, c.2.1.1, c.2.1.2⟩, c.2.2, fun l hl => ?_⟩⟩
      obtain ⟨R2, x2⟩ := R1.hid (ho := .rng i j) hp
      obtain ⟨R3, x3⟩ := R2.hid (ho := .lst (rangeV i (j - i).toNat)) hl
      exact hQ ρ1 _ l (rangeV i (j - i).toNat) ((x1.trans R1 x2).trans R2 x3) R3 ((x1.trans R1 x2).none hR hl R2) (R2.out hl) upd_same (range_rd i _)
    · cases hm
  · cases hm
noncomputable def mTupR (m : MA) : ME := fun ls hd => (mRng m ls hd).bind fun p => some (mkTup p.1, p.2)
theorem perm_sorted_eq : ∀ {xs ys : List Int}, xs.Perm ys -> xs.Pairwise (· <= ·) -> ys.Pairwise (· <= ·) -> xs = ys := fun {xs ys} p a b =>
  p.eq_of_pairwise (le := (· <= ·)) (fun _ _ _ _ h1 h2 => Int.le_antisymm h1 h2) a b
def sortI (xs : List Int) : List Int := xs.mergeSort (fun a b => decide (a <= b))
theorem sortI_perm (xs : List Int) : (sortI xs).Perm xs := List.mergeSort_perm ..
theorem sortI_sorted (xs : List Int) : (sortI xs).Pairwise (· <= ·) := by
  have := List.pairwise_mergeSort (le := fun a b : Int => decide (a <= b)) (by intro a b c h1 h2; simp at *; omega) (by intro a b; simp; omega) xs
  exact this.imp (by simp)
def mSorted (m : MI) : MA := fun ls hd => (m ls hd).bind fun p => (intsD p.1.1).bind fun ns => if ns.length < 64 then some ((sortI ns).map fun i => .im (.int i), p.2) else none
end
section
variable (K : PySem.W.Frag) {X : Cx} {a b e : Expr} {ta tb te : TE} {me : ME} {m : MA} {t : TA} {p p2 pos pos2 : Pos} {es : List Expr}
theorem qn_listR (hm : X.mg "list" = none) (hm2 : X.mg "range" = none) (ha : QA K X (a :: es) t m) (hc : X.calm = true := by rfl) (hg : Gl X "list" := by rfl) (hg2 : Gl X "range" := by rfl) (he2 : starEach (a :: es) X.env = (false, eval a X.env) :: starEach es X.env := by rfl) (hpl : (backTo pos2 (starEach es X.env)).any (·.1) = false := by rfl)
    (he : starEach [.Call (.Name "range" p2) (a :: es) [] pos2] X.env = [(false, eval (.Call (.Name "range" p2) (a :: es) [] pos2) X.env)] := by rfl) :
    QN K X (.Call (.Name "list" p) [.Call (.Name "range" p2) (a :: es) [] pos2] [] pos) (tCB rListR (tCons (tCB rRange t) tNil)) (mRng m) :=
  ⟨pe_callTy (call_listR hc) hg hm bt_list (pa_cons (pe_callTy (call_rng1.or call_rng2) hg2 hm2 boot_range ha.p (by decide) (by decide) he2 hpl) pa_nil he) (by decide) (by decide) he rfl, rn_listR ha.r⟩
end
end L2
namespace L2
structure BltA (mg : PySem.Str -> Option PySem.Value) : Prop where
  list : mg "list" = none
  tuple : mg "tuple" = none
  len : mg "len" = none
  range : mg "range" = none
  repr : mg "repr" = none
  sum : mg "sum" = none
  min : mg "min" = none
  max : mg "max" = none
  abs : mg "abs" = none
  all : mg "all" = none
  any : mg "any" = none
  sorted : mg "sorted" = none
  zip : mg "zip" = none
  isinstance : mg "isinstance" = none
  int : mg "int" = none
  bool : mg "bool" = none
  str : mg "str" = none
  set : mg "set" = none
  enumerate : mg "enumerate" = none
  reversed : mg "reversed" = none
  dict : mg "dict" = none
end L2
namespace L2
open PySem PySem.Spec PyProof.Rows
abbrev LC2 (elt tg iter : Expr) (ifs : List Expr) (tg2 iter2 : Expr) (ifs2 : List Expr) (scope : Scope) (pos : Pos) : Expr := .ListComp elt [⟨tg, iter, ifs, 0⟩, ⟨tg2, iter2, ifs2, 0⟩] scope pos
theorem turn2_0 (elt tg iter : Expr) (ifs : List Expr) (tg2 iter2 : Expr) (ifs2 : List Expr) (scope : Scope) (pos : Pos) (it acc : Value) (env : Env) :
    compTurn (LC2 elt tg iter ifs tg2 iter2 ifs2 scope pos) 0 it acc env = (do
      standAt iter.pos
      match <- pyNext it with
      | none => pure (.done .next)
      | some v =>
        letOwnedTupleGo tg it v
        assign tg env v
        let mut ok := true
        for c in ifs do
          if ok then ok <- isTrue c env (eval c env)
        if ok then
          let x <- eval iter2 env
          standAt iter2.pos
          let x <- foldedSetIterable iter2 env x
          let _ <- runOwn (.compStart (LC2 elt tg iter ifs tg2 iter2 ifs2 scope pos) 1 (<- holding [x] (pyIter x)) acc env) env
        again (.compLoop (LC2 elt tg iter ifs tg2 iter2 ifs2 scope pos) 0 it acc env)) := by rfl
theorem turn2_1 (elt tg iter : Expr) (ifs : List Expr) (tg2 iter2 : Expr) (ifs2 : List Expr) (scope : Scope) (pos : Pos) (it acc : Value) (env : Env) :
    compTurn (LC2 elt tg iter ifs tg2 iter2 ifs2 scope pos) 1 it acc env = (do
      standAt iter2.pos
      match <- pyNext it with
      | none => pure (.done .next)
      | some v =>
        letOwnedTupleGo tg2 it v
        assign tg2 env v
        let mut ok := true
        for c in ifs2 do
          if ok then ok <- isTrue c env (eval c env)
        if ok then
          (do let _ <- call (.builtin "list.append") [acc, <- eval elt env])
        again (.compLoop (LC2 elt tg iter ifs tg2 iter2 ifs2 scope pos) 1 it acc env)) := by rfl
section
variable {prog : Program} {w : World} {A : Around} {R : Result -> Shared -> Prop} {s : Shared} {elt tg iter tg2 iter2 : Expr} {ifs ifs2 : List Expr} {scope : Scope} {pos : Pos} {it acc : Value} {env : Env}
theorem loop2_1 (I : Nat -> Shared -> Prop)
    (turn : ∀ n s, I n s -> wpAny (model prog w) A (pyNext it) (fun r s₁ => match r with
      | none => R (.ok .next) s₁
      | some v => wpAny (model prog w) A (letOwnedTupleGo tg2 it v) (fun _ s₁ => wpAny (model prog w) A (assign tg2 env v) (fun _ s₂ =>
          wpAny (model prog w) A (forIn ifs2 true fun c r => if r = true then do let ok <- isTrue c env (eval c env); pure (ForInStep.yield ok) else pure (ForInStep.yield r)) (fun ok s₃ =>
            if ok = true then wpAny (model prog w) A (eval elt env) (fun x s₄ =>
              wpAny (model prog w) A (call (.builtin "list.append") [acc, x]) (fun _ s₅ => ∃ m, m < n /\ I m s₅) (fun _ _ => False) s₄) (fun _ _ => False) s₃
            else ∃ m, m < n /\ I m s₃) (fun _ _ => False) s₂) (fun _ _ => False) s₁) (fun _ _ => False) s₁) (fun _ _ => False) s)
    (n : Nat) (h : I n s) : codeAny (model prog w) A (.compLoop (LC2 elt tg iter ifs tg2 iter2 ifs2 scope pos) 1 it acc env) R s := by
  refine codeAny_loop rfl I (fun n s hI => ?_) n h
  show wpAny _ A ((compTurn (LC2 elt tg iter ifs tg2 iter2 ifs2 scope pos) 1 it acc env).onRaise (fun x => do noteFrame x env; theTreesLotGoes x)) _ _ s
  refine wpAny_noted ?_
  rw [turn2_1]
  refine wpAny_bind (wpAny_standAt (wpAny_bind (wpAny_mono (turn n s hI) (fun r s₁ h₁ => ?_) fun _ _ h' => h'.elim)))
  cases r with
  | none => exact wpAny_pure h₁
  | some v =>
    refine wpAny_bind (wpAny_mono h₁ (fun _ s₁ h₁ => ?_) fun _ _ h' => h'.elim)
    refine wpAny_bind (wpAny_mono h₁ (fun _ s₂ h₂ => wpAny_bind (wpAny_mono h₂ (fun ok s₃ h₃ => ?_) fun _ _ h' => h'.elim)) fun _ _ h' => h'.elim)
    cases ok with
    | false => exact wpAny_pure ⟨rfl, h₃⟩
    | true =>
      exact wpAny_bind (wpAny_bind (wpAny_mono h₃ (fun x s₄ h₄ => wpAny_bind (wpAny_mono h₄ (fun _ s₅ h₅ => wpAny_pure (wpAny_pure ⟨rfl, h₅⟩)) fun _ _ h' => h'.elim)) fun _ _ h' => h'.elim))
theorem loop2_0 (hs : ∀ x, foldedSetIterable iter2 env x = pure x) (I : Nat -> Shared -> Prop)
    (turn : ∀ n s, I n s -> wpAny (model prog w) A (pyNext it) (fun r s₁ => match r with
      | none => R (.ok .next) s₁
      | some v => wpAny (model prog w) A (letOwnedTupleGo tg it v) (fun _ s₁ => wpAny (model prog w) A (assign tg env v) (fun _ s₂ =>
          wpAny (model prog w) A (forIn ifs true fun c r => if r = true then do let ok <- isTrue c env (eval c env); pure (ForInStep.yield ok) else pure (ForInStep.yield r)) (fun ok s₃ =>
            if ok = true then wpAny (model prog w) A (eval iter2 env) (fun x s₄ => wpAny (model prog w) A (pyIter x) (fun it2 s₅ =>
              codeAny (model prog w) A (.compStart (LC2 elt tg iter ifs tg2 iter2 ifs2 scope pos) 1 it2 acc env) (fun r s₆ => r = .ok .next /\ ∃ m, m < n /\ I m s₆) s₅) (fun _ _ => False) s₄) (fun _ _ => False) s₃
            else ∃ m, m < n /\ I m s₃) (fun _ _ => False) s₂) (fun _ _ => False) s₁) (fun _ _ => False) s₁) (fun _ _ => False) s)
    (n : Nat) (h : I n s) : codeAny (model prog w) A (.compLoop (LC2 elt tg iter ifs tg2 iter2 ifs2 scope pos) 0 it acc env) R s := by
  refine codeAny_loop rfl I (fun n s hI => ?_) n h
  show wpAny _ A ((compTurn (LC2 elt tg iter ifs tg2 iter2 ifs2 scope pos) 0 it acc env).onRaise (fun x => do noteFrame x env; theTreesLotGoes x)) _ _ s
  refine wpAny_noted ?_
  rw [turn2_0]
  refine wpAny_bind (wpAny_standAt (wpAny_bind (wpAny_mono (turn n s hI) (fun r s₁ h₁ => ?_) fun _ _ h' => h'.elim)))
  cases r with
  | none => exact wpAny_pure h₁
  | some v =>
    refine wpAny_bind (wpAny_mono h₁ (fun _ s₁ h₁ => ?_) fun _ _ h' => h'.elim)
    refine wpAny_bind (wpAny_mono h₁ (fun _ s₂ h₂ => wpAny_bind (wpAny_mono h₂ (fun ok s₃ h₃ => ?_) fun _ _ h' => h'.elim)) fun _ _ h' => h'.elim)
    cases ok with
    | false => exact wpAny_pure ⟨rfl, h₃⟩
    | true =>
      refine wpAny_bind (wpAny_mono h₃ (fun x s₄ h₄ => wpAny_bind (wpAny_standAt ?_)) fun _ _ h' => h'.elim)
      rw [hs]
      refine wpAny_bind (wpAny_pure (wpAny_bind (wpAny_holding (wpAny_mono h₄ (fun it2 s₅ h₅ => wpAny_bind (wpAny_runOwn (codeAny_mono h₅ fun r s₆ h₆ => ?_))) fun _ _ h' => h'.elim))))
      obtain ⟨rfl, h₆⟩ := h₆
      exact wpAny_pure ⟨rfl, h₆⟩
theorem start2_1 (h0 : codeAny (model prog w) A (.compLoop (LC2 elt tg iter ifs tg2 iter2 ifs2 scope pos) 1 it acc env) R s)
    (h : wpAny (model prog w) A (pyIter it) (fun it' s' => codeAny (model prog w) A (.compLoop (LC2 elt tg iter ifs tg2 iter2 ifs2 scope pos) 1 it' acc env) R s') (fun _ _ => False) s) :
    codeAny (model prog w) A (.compStart (LC2 elt tg iter ifs tg2 iter2 ifs2 scope pos) 1 it acc env) R s := by
  refine codeAny_of_tree ?_
  show wpAny _ _ ((compStart (LC2 elt tg iter ifs tg2 iter2 ifs2 scope pos) 1 it acc env).onRaise (fun x => do noteFrame x env; standAt theWindowsPlace)) _ _ s
  refine wpAny_notedAt ?_
  unfold compStart
  show wpAny _ _ (ask >>= _) _ _ s
  refine wpAny_bind (wpAny_askSetting (wpAny_ite ?_))
  split
  · exact wpAny_bind (wpAny_pure (wpAny_pure (And.intro rfl h0)))
  · exact wpAny_bind (wpAny_rule (wpAny_bind (wpAny_standAt (wpAny_bind (wpAny_mono h (fun it' s' h' => wpAny_pure (And.intro rfl h')) fun _ _ x => x.elim)))))
end
end L2
namespace L2
open PySem PySem.Spec PyProof.Rows
def CompV (J : It) (D : Addr) (σ0 : St) (H0 : Hp) (g : TG) (tf : TT) (te : TE) (Q : St -> Hp -> Prop) : Prop := ∃ W : Nat -> Nat -> St -> Hp -> Prop,
  (∃ m, W 0 m σ0 H0) /\ ∀ i m σ H, W i m σ H ->
    ((J.stop i H /\ Q σ H) ∨ (J.go i H /\ ∃ N : St -> Hp -> Prop, (∀ σ' H', N σ' H' -> ∃ m', m' < m /\ W (i + 1) m' σ' H') /\
      ∀ x H', J.yld i H x H' -> g x σ H' fun σ2 H2 => tf σ2 H2 fun b H3 =>
        if b = true then te σ2 H3 fun v H4 => ∃ ys, H4 D = some (.lst ys) /\ ys.length < sizeLine /\ N σ2 (upd H4 D (.lst (ys ++ [v])))
        else N σ2 H3))
def CompWW (J : It) (D : Addr) (σ0 : St) (H0 : Hp) (g : TG) (tf : TT) (wi2 : TI) (g2 : TG) (tf2 : TT) (te : TE) (Q : VK) : Prop := ∃ W : Nat -> Nat -> St -> Hp -> Prop,
  (∃ m, W 0 m σ0 (upd H0 D (.lst []))) /\ ∀ i m σ H, W i m σ H ->
    ((J.stop i H /\ Q (.ref D) H) ∨ (J.go i H /\ ∃ N : St -> Hp -> Prop, (∀ σ' H', N σ' H' -> ∃ m', m' < m /\ W (i + 1) m' σ' H') /\
      ∀ x H', J.yld i H x H' -> g x σ H' fun σ2 H2 => tf σ2 H2 fun b H3 =>
        if b = true then wi2 σ2 H3 fun J2 H4 => CompV J2 D σ2 H4 g2 tf2 te N
        else N σ2 H3))
def tComp2 (n : Nat) (ix : List Nat) (wi : TI) (g : TG) (tf : TT) (wi2 : TI) (g2 : TG) (tf2 : TT) (te : TE) : TE := fun σ H Q => wi σ H fun J H1 => ∀ D, H1 D = none -> CompWW J D (capt n ix σ) H1 g tf wi2 g2 tf2 te Q
section
variable {X : Cx}
theorem comp_inner {elt tg iter tg2 iter2 : Expr} {ifs ifs2 : List Expr} {scope : Scope} {pos : Pos} {N' : List Str} {s3 : Shared} {H3 : Hp} {fp3 : List Addr} {g : TG} {tf : TT} {te : TE} {pins : List (Addr × Obj)} {σ : St} {H : Hp} {s : Shared} {D it : Addr} {fp : List Addr} {tn : Nat -> Heap -> Prop} {J : It} {Q : St -> Hp -> Prop}
    (hc : X.calm = true) (hg : PG (cCx X N' scope s3 H3 fp3) tg2 g) (hf : PF (cCx X N' scope s3 H3 fp3) ifs2 tf) (he : PE (cCx X N' scope s3 H3 fp3) elt te)
    (I : Inv (cCx X N' scope s3 H3 fp3) pins σ H s) (T : Turn X.prog X.w X.K tg2 J fp it tn) (st : tn 0 s.heap) (f2 : ∀ b ∈ fp, FpOk (cCx X N' scope s3 H3 fp3) pins H b) (hW : CompV J D σ H g tf te Q) :
    codeAny (model X.prog X.w) X.A (.compStart (LC2 elt tg iter ifs tg2 iter2 ifs2 scope pos) 1 (.ref it) (.ref D) (cCx X N' scope s3 H3 fp3).env)
      (fun r s' => r = .ok .next /\ ∃ σ' H', Inv (cCx X N' scope s3 H3 fp3) pins σ' H' s' /\ Q σ' H') s := by
  obtain ⟨W, ⟨m0, w0⟩, turn⟩ := hW
  have fpX : ∀ {H' : Hp}, (∀ b ∈ fp, H' b = none) -> ∀ b ∈ fp, FpOk (cCx X N' scope s3 H3 fp3) pins H' b := fun hn b hb => ⟨hn b hb, (f2 b hb).2⟩
  have loop : codeAny (model X.prog X.w) X.A (.compLoop (LC2 elt tg iter ifs tg2 iter2 ifs2 scope pos) 1 (.ref it) (.ref D) (cCx X N' scope s3 H3 fp3).env)
      (fun r s' => r = .ok .next /\ ∃ σ' H', Inv (cCx X N' scope s3 H3 fp3) pins σ' H' s' /\ Q σ' H') s := by
    refine loop2_1 (fun n s' => ∃ i σ' H', Inv (cCx X N' scope s3 H3 fp3) pins σ' H' s' /\ tn i s'.heap /\ (∀ b ∈ fp, H' b = none) /\ W i n σ' H') ?_ m0
      ⟨0, _, _, I, st, fun b hb => (f2 b hb).1, w0⟩
    rintro n s5 ⟨i, σ5, H5, I5, st5, fr5, w5⟩
    have w5 := turn i n σ5 H5 w5
    rcases w5 with ⟨stop, qn⟩ | ⟨go, N, hN, step⟩
    · refine thn (T.done (cCx X N' scope s3 H3 fp3) rfl rfl rfl hc i pins s5 σ5 H5 _ I5 (fpX fr5) st5 stop) fun r s6 ⟨hr, I6⟩ => ?_
      subst hr
      exact ⟨rfl, σ5, H5, I6, qn⟩
    · refine thn (T.item (cCx X N' scope s3 H3 fp3) rfl rfl rfl hc i pins s5 σ5 H5 _ I5 (fpX fr5) st5 go) fun r s6 ⟨u, hr, h6⟩ => ?_
      subst hr
      refine thn h6 fun _ s7 ⟨x, H7, I7, r7, y7, st7, fr7⟩ => ?_
      have I7' := I7.pinned (fpX fr7) (T.obj _ _ st7)
      have keepI : ∀ {σ8 : St} {H8 : Hp} {s8 : Shared}, Inv (cCx X N' scope s3 H3 fp3) (pins ++ pinsAt fp s7.heap) σ8 H8 s8 -> tn (i + 1) s8.heap /\ ∀ b ∈ fp, H8 b = none := fun {σ8 H8 s8} I8 => by
        refine ⟨T.keep _ _ _ st7 fun b hb o e => (I8.pin (b, o) (List.mem_append_right _ (List.mem_append_right _ (mem_pinsAt hb e)))).1, fun b hb => ?_⟩
        obtain ⟨o, e, d⟩ := T.obj _ _ st7 b hb
        exact (I8.pin (b, o) (List.mem_append_right _ (List.mem_append_right _ (mem_pinsAt hb e)))).2.1
      refine thn (hg _ s7 σ5 H7 x u _ I7' r7 (step x H7 y7)) fun _ s8 ⟨σ8, H8, I8, q8⟩ => ?_
      refine thn (hf _ s8 σ8 H8 _ I8 q8) fun b s9 ⟨H9, I9, q9⟩ => ?_
      cases b with
      | false =>
        rw [if_neg Bool.false_ne_true] at q9 ⊢
        obtain ⟨m', hm, w9⟩ := hN _ _ q9
        exact ⟨m', hm, i + 1, σ8, H9, I9.unpinned, (keepI I9).1, (keepI I9).2, w9⟩
      | true =>
        rw [if_pos rfl] at q9 ⊢
        refine thn (he _ s9 σ8 H9 _ I9 q9) fun e10 s10 ⟨v10, H10, I10, r10, ys, hD10, hz, n10⟩ => ?_
        obtain ⟨m', hm, w10⟩ := hN _ _ n10
        refine app_ok (X := cCx X N' scope s3 H3 fp3) I10 hD10 r10 hz fun _ s11 I11 => ?_
        exact ⟨m', hm, i + 1, σ8, _, I11.unpinned, (keepI I11).1, (keepI I11).2, w10⟩
  exact start2_1 loop (T.self X.A 0 _ _ _ st loop)
theorem comp2_block {elt tg iter tg2 iter2 : Expr} {ifs ifs2 : List Expr} {scope : Scope} {pos : Pos} {loc fr : List Str} {ix : List Nat} {g g2 : TG} {tf tf2 : TT} {wi2 : TI} {te : TE} {pins : List (Addr × Obj)} {σ : St} {Q : VK} {it : Addr} {fp : List Addr} {tn : Nat -> Heap -> Prop} {J : It} {H2 : Hp} {s2 : Shared} {E : Value -> Shared -> Prop}
    {RR : Value -> Addr -> Result -> Shared -> Prop} (hc : X.calm = true) (S : CSc X scope fr ix)
    (hg : ∀ s H ex, PG (cCx X (loc ++ fr) scope s H ex) tg g) (hf : ∀ s H ex, PF (cCx X (loc ++ fr) scope s H ex) ifs tf) (hi2 : ∀ s H ex, PI (cCx X (loc ++ fr) scope s H ex) tg2 iter2 wi2) (hg2 : ∀ s H ex, PG (cCx X (loc ++ fr) scope s H ex) tg2 g2) (hf2 : ∀ s H ex, PF (cCx X (loc ++ fr) scope s H ex) ifs2 tf2) (he : ∀ s H ex, PE (cCx X (loc ++ fr) scope s H ex) elt te)
    (hs2 : ∀ s H ex x, foldedSetIterable iter2 (cCx X (loc ++ fr) scope s H ex).env x = pure x)
    (I2 : Inv X pins σ H2 s2) (T : Turn X.prog X.w X.K tg J fp it tn) (st2 : tn 0 s2.heap) (f2 : ∀ b ∈ fp, FpOk X pins H2 b) (hW : ∀ D, H2 D = none -> CompWW J D (capt loc.length ix σ) H2 g tf wi2 g2 tf2 te Q)
    (hfin : ∀ (s3 s6 : Shared) (H5 : Hp) (σ5 : St) (D : Addr), Inv X pins σ (upd H2 D (.lst [])) s3 -> Inv (cCx X (loc ++ fr) scope s3 (upd H2 D (.lst [])) fp) [] σ5 H5 s6 -> (∀ b ∈ fp, FpOk X pins (upd H2 D (.lst [])) b) -> Q (.ref D) H5 -> RR (.ref D) s3.heap.objs.size (.ok .next) s6) :
    wpAny (model X.prog X.w) X.A (newList []) (fun acc s₃ => wpAny (model X.prog X.w) X.A (newFunctionEnv scope X.env.globals (closOf X.env.cells scope.names []) [] X.env.qual none .none (some X.env)) (fun cenv s₄ =>
      codeAny (model X.prog X.w) X.A (.compStart (LC2 elt tg iter ifs tg2 iter2 ifs2 scope pos) 0 (.ref it) acc { cenv with scope := relabel scope X.env }) (RR acc cenv.locals) s₄) E s₃) E s2 := by
  refine wpAny_newObj_type ?_
  have fresh2 : H2 s2.heap.objs.size = none := I2.hok.fresh (Nat.le_refl _)
  have I3 := I2.lnew (its := []) (ys := []) (t' := s2.toks) .nil (Nat.zero_le _)
  obtain ⟨W, ⟨m0, w0⟩, turn⟩ := hW s2.heap.objs.size fresh2
  have lt2 : ∀ b ∈ fp, b < s2.heap.objs.size := fun b hb => let ⟨o, e, _⟩ := T.obj 0 _ st2 b hb; Heap.lt_size e
  have f3 : ∀ b ∈ fp, FpOk X pins (upd H2 s2.heap.objs.size (.lst [])) b := fun b hb => ⟨by rw [upd_ne (Nat.ne_of_lt (lt2 b hb))]; exact (f2 b hb).1, (f2 b hb).2⟩
  have lt3 : ∀ b ∈ fp, b < (s2.heap.push { cls := .type "list", data := .seq ([] : List Value).toArray }).objs.size := fun b hb => by rw [Heap.size_push]; exact Nat.lt_succ_of_lt (lt2 b hb)
  generalize hs3 : ({ s2 with heap := s2.heap.push { cls := .type "list", data := .seq ([] : List Value).toArray } } : Shared) = s3 at *
  have lt3 : ∀ b ∈ fp, b < s3.heap.objs.size := by rw [<- hs3]; exact lt3
  have st3 : tn 0 s3.heap := T.keep _ _ _ st2 fun b hb o e => by rw [<- hs3]; exact Heap.get?_push_of_some _ e
  refine newEnvC fun h' hk hn ho ha => ?_
  have I4 := inv_comp (loc := loc) S I3 f3 hk hn ho ha lt3
  have fpX : ∀ {H' : Hp}, (∀ b ∈ fp, H' b = none) -> ∀ b ∈ fp, FpOk (cCx X (loc ++ fr) scope s3 (upd H2 s2.heap.objs.size (.lst [])) fp) [] H' b := fun hn b hb =>
    ⟨hn b hb, (I4.ok.exf b hb).1, I4.ok.exfs b hb, .inl hb, (I4.ok.exf b hb).2, fun p hp => by cases hp⟩
  have loop : codeAny (model X.prog X.w) X.A (.compLoop (LC2 elt tg iter ifs tg2 iter2 ifs2 scope pos) 0 (.ref it) (.ref s2.heap.objs.size) (cEnv scope s3.heap.objs.size X.env))
      (RR (.ref s2.heap.objs.size) s3.heap.objs.size) { s3 with heap := h' } := by
    refine loop2_0 (hs2 s3 (upd H2 s2.heap.objs.size (.lst [])) fp) (fun n s' => ∃ i σ' H', Inv (cCx X (loc ++ fr) scope s3 (upd H2 s2.heap.objs.size (.lst [])) fp) [] σ' H' s' /\ tn i s'.heap /\ (∀ b ∈ fp, H' b = none) /\ W i n σ' H') ?_ m0
      ⟨0, _, _, I4, T.keep _ _ _ st3 fun b hb o e => hk b o e, fun b hb => (f3 b hb).1, w0⟩
    rintro n s5 ⟨i, σ5, H5, I5, st5, fr5, w5⟩
    have w5 := turn i n σ5 H5 w5
    rcases w5 with ⟨stop, qn⟩ | ⟨go, N, hN, step⟩
    · refine thn (T.done (cCx X (loc ++ fr) scope s3 (upd H2 s2.heap.objs.size (.lst [])) fp) rfl rfl rfl hc i [] s5 σ5 H5 _ I5 (fpX fr5) st5 stop) fun r s6 ⟨hr, I6⟩ => ?_
      subst hr
      exact hfin s3 s6 H5 σ5 s2.heap.objs.size I3 I6 f3 qn
    · refine thn (T.item (cCx X (loc ++ fr) scope s3 (upd H2 s2.heap.objs.size (.lst [])) fp) rfl rfl rfl hc i [] s5 σ5 H5 _ I5 (fpX fr5) st5 go) fun r s6 ⟨u, hr, h6⟩ => ?_
      subst hr
      refine thn h6 fun _ s7 ⟨x, H7, I7, r7, y7, st7, fr7⟩ => ?_
      have I7' := I7.pinned (fpX fr7) (T.obj _ _ st7)
      have keepI : ∀ {σ8 : St} {H8 : Hp} {s8 : Shared}, Inv (cCx X (loc ++ fr) scope s3 (upd H2 s2.heap.objs.size (.lst [])) fp) ([] ++ pinsAt fp s7.heap) σ8 H8 s8 -> tn (i + 1) s8.heap /\ ∀ b ∈ fp, H8 b = none := fun {σ8 H8 s8} I8 => by
        refine ⟨T.keep _ _ _ st7 fun b hb o e => (I8.pin (b, o) (List.mem_append_right _ (List.mem_append_right _ (mem_pinsAt hb e)))).1, fun b hb => ?_⟩
        obtain ⟨o, e, d⟩ := T.obj _ _ st7 b hb
        exact (I8.pin (b, o) (List.mem_append_right _ (List.mem_append_right _ (mem_pinsAt hb e)))).2.1
      refine thn (hg s3 (upd H2 s2.heap.objs.size (.lst [])) fp _ s7 σ5 H7 x u _ I7' r7 (step x H7 y7)) fun _ s8 ⟨σ8, H8, I8, q8⟩ => ?_
      refine thn (hf s3 (upd H2 s2.heap.objs.size (.lst [])) fp _ s8 σ8 H8 _ I8 q8) fun b s9 ⟨H9, I9, q9⟩ => ?_
      cases b with
      | false =>
        rw [if_neg Bool.false_ne_true] at q9 ⊢
        obtain ⟨m', hm, w9⟩ := hN _ _ q9
        exact ⟨m', hm, i + 1, σ8, H9, I9.unpinned, (keepI I9).1, (keepI I9).2, w9⟩
      | true =>
        rw [if_pos rfl] at q9 ⊢
        refine thn (hi2 s3 (upd H2 s2.heap.objs.size (.lst [])) fp _ s9 σ8 H9 _ I9 q9) fun v10 s10 h10 => thn h10 fun it2 s11 h11 => ?_
        obtain ⟨itb, fpb, tnb, Jb, Hb, rfl, Ib, Tb, stb, fb, hWb⟩ := h11
        refine codeAny_mono (comp_inner hc (hg2 _ _ _) (hf2 _ _ _) (he _ _ _) Ib Tb stb fb hWb) fun r s12 ⟨hr, σ12, H12, I12, n12⟩ => ⟨hr, ?_⟩
        obtain ⟨m', hm, w12⟩ := hN _ _ n12
        exact ⟨m', hm, i + 1, σ12, H12, I12.unpinned, (keepI I12).1, (keepI I12).2, w12⟩
  exact codeAny_compStart_list loop (T.self X.A 0 _ _ _ (T.keep _ _ _ st3 fun b hb o e => hk b o e) loop)
theorem pe_comp2 {elt tg iter tg2 iter2 : Expr} {ifs ifs2 : List Expr} {scope : Scope} {pos : Pos} {loc fr : List Str} {ix : List Nat} {wi wi2 : TI} {g g2 : TG} {tf tf2 : TT} {te : TE} (hc : X.calm = true) (S : CSc X scope fr ix) (hi : PI X tg iter wi)
    (hg : ∀ s H ex, PG (cCx X (loc ++ fr) scope s H ex) tg g) (hf : ∀ s H ex, PF (cCx X (loc ++ fr) scope s H ex) ifs tf) (hi2 : ∀ s H ex, PI (cCx X (loc ++ fr) scope s H ex) tg2 iter2 wi2) (hg2 : ∀ s H ex, PG (cCx X (loc ++ fr) scope s H ex) tg2 g2) (hf2 : ∀ s H ex, PF (cCx X (loc ++ fr) scope s H ex) ifs2 tf2) (he : ∀ s H ex, PE (cCx X (loc ++ fr) scope s H ex) elt te)
    (hs : ∀ x, foldedSetIterable iter X.env x = pure x := by intro _; rfl) (hs2 : ∀ s H ex x, foldedSetIterable iter2 (cCx X (loc ++ fr) scope s H ex).env x = pure x := by intro _ _ _ _; rfl) :
    PE X (LC2 elt tg iter ifs tg2 iter2 ifs2 scope pos) (tComp2 loc.length ix wi g tf wi2 g2 tf2 te) := by
  intro pins s σ H Q I h
  rw [eval_ListComp]
  have hnames : ∀ y ∈ scope.names, y.2 = .local -> scope.names.lookup y.1 = some .local := fun y hy e => by
    have := List.all_eq_true.mp S.loc y hy
    rw [e] at this
    simpa using this
  refine wpAny_comprehension_free (use := none) rfl hs (closureFor_eq (S.clos I.ok)) S.kind hnames (thn (hi pins s σ H _ I h) fun v s1 h1 => thn h1 fun itv s2 h2 => ?_)
  obtain ⟨it, fp, tn, J, H2, rfl, I2, T, st2, f2, hW⟩ := h2
  refine comp2_block (RR := fun acc C => compPost (model X.prog X.w) X.A X.xe none (EP X pins σ Q) acc C) hc S hg hf hi2 hg2 hf2 he hs2 I2 T st2 f2 hW fun s3 s6 H5 σ5 L I3 I6 f3 q => ?_
  obtain ⟨m, hm, _⟩ := I6.loc
  exact ⟨m, hm, fun h'' hs' => ⟨.ref L, H5, after_block I3 I6 f3 hs', rfl, q⟩⟩
end
end L2
namespace L2
open PySem PySem.Spec PyProof.Rows
open Classical in
noncomputable def mIn (k : Nat) (n : MG) (c : MT) (m : ME) (g : Gd) : List D -> Ls -> Hd -> Option (Ls × Hd)
  | [], ls, hd => some (ls, hd)
  | d :: r, ls, hd => (n d ls hd).bind fun ls1 => (c ls1 hd).bind fun p => if p.1 = true then (m ls1 p.2).bind fun q => (fAppend (.mu k) [q.1] q.2).bind fun z => if GOk z.2 g then mIn k n c m g r ls1 z.2 else none else if GOk p.2 g then mIn k n c m g r ls1 p.2 else none
open Classical in
noncomputable def mOut (k : Nat) (n : MG) (c : MT) (mi : MI) (n2 : MG) (c2 : MT) (m : ME) (g : Gd) : List D -> Ls -> Hd -> Option Hd
  | [], ls, hd => some hd
  | d :: r, ls, hd => (n d ls hd).bind fun ls1 => (c ls1 hd).bind fun p => if p.1 = true then (mi ls1 p.2).bind fun q => (mIn k n2 c2 m q.1.2 q.1.1 ls1 q.2).bind fun z => if GOk z.2 g then mOut k n c mi n2 c2 m g r z.1 z.2 else none else if GOk p.2 g then mOut k n c mi n2 c2 m g r ls1 p.2 else none
noncomputable def mComp2 (j : Nat) (ix : List Nat) (mi : MI) (n : MG) (c : MT) (mi2 : MI) (n2 : MG) (c2 : MT) (m : ME) : ME := fun ls hd => (mi ls hd).bind fun p => (mOut p.2.length n c mi2 n2 c2 m p.1.2 p.1.1 (captD j ix ls) (p.2 ++ [.lst []])).map fun h => (.mu p.2.length, h)
section
variable {K : PySem.W.Frag} {ρ : List Addr} {H : Hp} {hd : Hd}
theorem gok_app {h : Hd} {g : Gd} (G : GOk h g) (r : Hd) : GOk (h ++ r) g := fun p hp => by
  have := G p hp
  have hl : p.1 < h.length := (List.getElem?_eq_some_iff.mp this).1
  rw [List.getElem?_append_left hl]; exact this
theorem r_in {g : TG} {tf : TT} {te : TE} {n : MG} {c : MT} {m : ME} (hg : RGt K g n) (hf : RT K tf c) (he : RE K te m) {J : It} {ds : List D} {gd : Gd} {k : Nat} {Da : Addr} {ls ls' : Ls} {hd' : Hd} {σ : St} {Q : St -> Hp -> Prop}
    (hR : RH K ρ H hd) (hL : RL K ρ H ls σ) (G : GOk hd gd) (Y : Yields K ρ H J ds gd) (hk : ρ[k]? = some Da) (hm : mIn k n c m gd ds ls hd = some (ls', hd'))
    (hQ : ∀ ρ' H' σ', Ext ρ H ρ' H' -> RH K ρ' H' hd' -> RL K ρ' H' ls' σ' -> Q σ' H') : CompV J Da σ H g tf te Q := by
  refine ⟨fun i mm σ2 H2 => mm = ds.length - i /\ i <= ds.length /\ ∃ ρ2 ls2 hd2, Ext ρ H ρ2 H2 /\ RH K ρ2 H2 hd2 /\ RL K ρ2 H2 ls2 σ2 /\ GOk hd2 gd /\ mIn k n c m gd (ds.drop i) ls2 hd2 = some (ls', hd'),
    ⟨ds.length, by simp, Nat.zero_le _, ρ, ls, hd, .refl, hR, hL, G, by simpa using hm⟩, ?_⟩
  rintro i mm σ2 H2 ⟨rfl, hi, ρ2, ls2, hd2, x2, R2, L2', G2, hm2⟩
  obtain ⟨Y1, Y2⟩ := Y ρ2 H2 hd2 x2 R2 G2 i
  have hk2 : ρ2[k]? = some Da := by
    obtain ⟨r, rfl, _⟩ := x2.pre
    rw [List.getElem?_append_left (List.getElem?_eq_some_iff.mp hk).1]; exact hk
  by_cases hlt : i < ds.length
  · obtain ⟨go, Y1⟩ := Y1 hlt
    have ed : ds.drop i = ds[i] :: ds.drop (i + 1) := List.drop_eq_getElem_cons hlt
    rw [ed] at hm2
    unfold mIn at hm2
    obtain ⟨ls3, e3, hm2⟩ := Option.bind_eq_some_iff.mp hm2
    obtain ⟨⟨bb, hd4⟩, e4, hm2⟩ := Option.bind_eq_some_iff.mp hm2
    refine .inr ⟨go, fun σ' H' => ∃ ρ2 ls2 hd2, Ext ρ H ρ2 H' /\ RH K ρ2 H' hd2 /\ RL K ρ2 H' ls2 σ' /\ GOk hd2 gd /\ mIn k n c m gd (ds.drop (i + 1)) ls2 hd2 = some (ls', hd'), fun σ' H' z => ⟨ds.length - (i + 1), by omega, rfl, hlt, z⟩, fun x H3 y => ?_⟩
    obtain ⟨ρ3, d3, x3, rfl, R3, e5, r3⟩ := Y1 x H3 y
    have e6 : d3 = ds[i] := by
      have : ds[i]? = some ds[i] := by simp [hlt]
      rw [this] at e5; exact (Option.some.inj e5).symm
    subst e6
    refine hg ρ3 σ2 H3 hd2 ls2 ls3 _ x _ R3 (L2'.ext R2 x3) r3 e3 fun σ4 L4 => ?_
    refine hf ρ3 σ4 H3 hd2 ls3 _ bb hd4 R3 L4 e4 fun ρ5 H5 x5 R5 => ?_
    have y25 := x3.trans R3 x5
    cases bb with
    | false =>
      rw [if_neg Bool.false_ne_true] at hm2 ⊢
      split at hm2
      · next g5 => exact ⟨ρ5, ls3, hd4, x2.trans R2 y25, R5, L4.ext R3 x5, g5, hm2⟩
      · cases hm2
    | true =>
      rw [if_pos rfl] at hm2 ⊢
      obtain ⟨⟨z, hd6⟩, e6, hm2⟩ := Option.bind_eq_some_iff.mp hm2
      obtain ⟨⟨z7, hd7⟩, e7, hm2⟩ := Option.bind_eq_some_iff.mp hm2
      refine he ρ5 σ4 H5 hd4 ls3 _ z hd6 R5 (L4.ext R3 x5) e6 fun ρ6 H6 v6 x6 R6 r6 => ?_
      have y26 := y25.trans R5 x6
      have hk6 : ρ6[k]? = some Da := by
        obtain ⟨r, rfl, _⟩ := y26.pre
        rw [List.getElem?_append_left (List.getElem?_eq_some_iff.mp hk2).1]; exact hk2
      unfold fAppend at e7
      dsimp only at e7 hm2
      split at e7
      · next es q =>
        split at e7
        · next c7 =>
          cases e7
          obtain ⟨xs, e1, e2⟩ := R6.lst hk6 q
          obtain ⟨R7, x7⟩ := R6.put hk6 (o := .lst (es ++ [z])) (ho := .lst (xs ++ [v6])) ⟨_, rfl, e2.app (.cons r6 .nil)⟩
          refine ⟨xs, e1, by rw [e2.len]; exact c7, ?_⟩
          split at hm2
          · next g7 => exact ⟨ρ6, ls3, _, (x2.trans R2 y26).trans R6 x7, R7, ((L4.ext R3 x5).ext R5 x6).ext R6 x7, g7, hm2⟩
          · cases hm2
        · cases e7
      · cases e7
  · have e : i = ds.length := by omega
    subst e
    rw [List.drop_length] at hm2
    unfold mIn at hm2
    cases hm2
    exact .inl ⟨Y2 rfl, hQ ρ2 H2 σ2 x2 R2 L2'⟩
theorem re_comp2 {j : Nat} {ix : List Nat} {wi wi2 : TI} {g g2 : TG} {tf tf2 : TT} {te : TE} {mi mi2 : MI} {n n2 : MG} {c c2 : MT} {m : ME} (hi : RIt K wi mi) (hg : RGt K g n) (hf : RT K tf c) (hi2 : RIt K wi2 mi2) (hg2 : RGt K g2 n2) (hf2 : RT K tf2 c2) (he : RE K te m) : RE K (tComp2 j ix wi g tf wi2 g2 tf2 te) (mComp2 j ix mi n c mi2 n2 c2 m) := by
  intro ρ σ H hd ls Q out hd' hR hL hm hQ
  obtain ⟨⟨⟨ds, gd⟩, h1⟩, e1, hm⟩ := Option.bind_eq_some_iff.mp hm
  obtain ⟨hd2, hm, e2⟩ := Option.map_eq_some_iff.mp hm
  cases e2
  dsimp only at hm
  refine hi ρ σ H hd ls _ ds gd h1 hR hL e1 fun ρ1 H1 J x1 R1 G1 Y => ?_
  intro Da hDa
  obtain ⟨R1', x1'⟩ := R1.new (o := .lst []) (ho := .lst []) hDa ⟨[], rfl, .nil⟩
  have hk1 : (ρ1 ++ [Da])[h1.length]? = some Da := by rw [<- R1.len]; simp
  refine ⟨fun i mm σ2 H2 => mm = ds.length - i /\ i <= ds.length /\ ∃ ρ2 ls2 h2, Ext (ρ1 ++ [Da]) (upd H1 Da (.lst [])) ρ2 H2 /\ RH K ρ2 H2 h2 /\ RL K ρ2 H2 ls2 σ2 /\ GOk h2 gd /\ mOut h1.length n c mi2 n2 c2 m gd (ds.drop i) ls2 h2 = some hd',
    ⟨ds.length, by simp, Nat.zero_le _, _, _, _, .refl, R1', capt_rl ((hL.ext hR x1).ext R1 x1'), gok_app G1 _, by simpa using hm⟩, ?_⟩
  rintro i mm σ2 H2 ⟨rfl, hi', ρ2, ls2, h2, x2, R2, L2', G2, hm2⟩
  have x12 := x1'.trans R1' x2
  obtain ⟨Y1, Y2⟩ := Y ρ2 H2 h2 x12 R2 G2 i
  have hk2 : ρ2[h1.length]? = some Da := by
    obtain ⟨r, rfl, _⟩ := x2.pre
    rw [List.getElem?_append_left (List.getElem?_eq_some_iff.mp hk1).1]; exact hk1
  by_cases hlt : i < ds.length
  · obtain ⟨go, Y1⟩ := Y1 hlt
    have ed : ds.drop i = ds[i] :: ds.drop (i + 1) := List.drop_eq_getElem_cons hlt
    rw [ed] at hm2
    unfold mOut at hm2
    obtain ⟨ls3, e3, hm2⟩ := Option.bind_eq_some_iff.mp hm2
    obtain ⟨⟨bb, hd4⟩, e4, hm2⟩ := Option.bind_eq_some_iff.mp hm2
    refine .inr ⟨go, fun σ' H' => ∃ ρ2 ls2 h2, Ext (ρ1 ++ [Da]) (upd H1 Da (.lst [])) ρ2 H' /\ RH K ρ2 H' h2 /\ RL K ρ2 H' ls2 σ' /\ GOk h2 gd /\ mOut h1.length n c mi2 n2 c2 m gd (ds.drop (i + 1)) ls2 h2 = some hd', fun σ' H' z => ⟨ds.length - (i + 1), by omega, rfl, hlt, z⟩, fun x H3 y => ?_⟩
    obtain ⟨ρ3, d3, x3, rfl, R3, e5, r3⟩ := Y1 x H3 y
    have e6 : d3 = ds[i] := by
      have : ds[i]? = some ds[i] := by simp [hlt]
      rw [this] at e5; exact (Option.some.inj e5).symm
    subst e6
    refine hg ρ3 σ2 H3 h2 ls2 ls3 _ x _ R3 (L2'.ext R2 x3) r3 e3 fun σ4 L4 => ?_
    refine hf ρ3 σ4 H3 h2 ls3 _ bb hd4 R3 L4 e4 fun ρ5 H5 x5 R5 => ?_
    have y25 := x3.trans R3 x5
    cases bb with
    | false =>
      rw [if_neg Bool.false_ne_true] at hm2 ⊢
      split at hm2
      · next g5 => exact ⟨ρ5, ls3, hd4, x2.trans R2 y25, R5, L4.ext R3 x5, g5, hm2⟩
      · cases hm2
    | true =>
      rw [if_pos rfl] at hm2 ⊢
      obtain ⟨⟨⟨ds6, g6⟩, hd6⟩, e6, hm2⟩ := Option.bind_eq_some_iff.mp hm2
      obtain ⟨⟨ls7, hd7⟩, e7, hm2⟩ := Option.bind_eq_some_iff.mp hm2
      refine hi2 ρ5 σ4 H5 hd4 ls3 _ ds6 g6 hd6 R5 (L4.ext R3 x5) e6 fun ρ6 H6 J6 x6 R6 G6 Y6 => ?_
      have y26 := y25.trans R5 x6
      have hk6 : ρ6[h1.length]? = some Da := by
        obtain ⟨r, rfl, _⟩ := y26.pre
        rw [List.getElem?_append_left (List.getElem?_eq_some_iff.mp hk2).1]; exact hk2
      refine r_in hg2 hf2 he R6 ((L4.ext R3 x5).ext R5 x6) G6 Y6 hk6 e7 fun ρ7 H7 σ7 x7 R7 L7 => ?_
      dsimp only at hm2
      split at hm2
      · next g7 => exact ⟨ρ7, ls7, hd7, (x2.trans R2 y26).trans R6 x7, R7, L7, g7, hm2⟩
      · cases hm2
  · have e : i = ds.length := by omega
    subst e
    rw [List.drop_length] at hm2
    unfold mOut at hm2
    cases hm2
    refine .inl ⟨Y2 rfl, hQ ρ2 H2 _ (x1.trans R1 x12) R2 ?_⟩
    simp only [RD]
    exact ⟨Da, hk2, rfl⟩
end
theorem qe_comp2 (K : PySem.W.Frag) {X : Cx} {elt tg iter tg2 iter2 : Expr} {ifs ifs2 : List Expr} {scope : Scope} {pos : Pos} {loc fr : List Str} {ix : List Nat} {wi wi2 : TI} {g g2 : TG} {tf tf2 : TT} {te : TE} {mi mi2 : MI} {n n2 : MG} {mf mf2 : MT} {mm : ME} (hc : X.calm = true) (S : CSc X scope fr ix) (hi : QI K X tg iter wi mi)
    (hg : ∀ s H ex, QG K (cCx X (loc ++ fr) scope s H ex) tg g n) (hf : ∀ s H ex, QF K (cCx X (loc ++ fr) scope s H ex) ifs tf mf) (hi2 : ∀ s H ex, QI K (cCx X (loc ++ fr) scope s H ex) tg2 iter2 wi2 mi2) (hg2 : ∀ s H ex, QG K (cCx X (loc ++ fr) scope s H ex) tg2 g2 n2) (hf2 : ∀ s H ex, QF K (cCx X (loc ++ fr) scope s H ex) ifs2 tf2 mf2) (he : ∀ s H ex, QE K (cCx X (loc ++ fr) scope s H ex) elt te mm)
    (hs : ∀ x, foldedSetIterable iter X.env x = pure x := by intro _; rfl) (hs2 : ∀ s H ex x, foldedSetIterable iter2 (cCx X (loc ++ fr) scope s H ex).env x = pure x := by intro _ _ _ _; rfl) :
    QE K X (.ListComp elt [⟨tg, iter, ifs, 0⟩, ⟨tg2, iter2, ifs2, 0⟩] scope pos) (tComp2 loc.length ix wi g tf wi2 g2 tf2 te) (mComp2 loc.length ix mi n mf mi2 n2 mf2 mm) :=
  ⟨pe_comp2 hc S hi.p (fun s H ex => (hg s H ex).p) (fun s H ex => (hf s H ex).p) (fun s H ex => (hi2 s H ex).p) (fun s H ex => (hg2 s H ex).p) (fun s H ex => (hf2 s H ex).p) (fun s H ex => (he s H ex).p) hs hs2,
    re_comp2 hi.r (hg X.s₀ X.H₀ []).r (hf X.s₀ X.H₀ []).r (hi2 X.s₀ X.H₀ []).r (hg2 X.s₀ X.H₀ []).r (hf2 X.s₀ X.H₀ []).r (he X.s₀ X.H₀ []).r⟩
end L2
namespace L2
open PySem PySem.Spec PyProof.Rows
@[simp] theorem ev_comp2 (j : Nat) (ix : List Nat) (mi mi2 : MI) (n n2 : MG) (c c2 : MT) (m : ME) (ls : Ls) (hd : Hd) : mComp2 j ix mi n c mi2 n2 c2 m ls hd = (mi ls hd).bind fun p => (mOut p.2.length n c mi2 n2 c2 m p.1.2 p.1.1 (captD j ix ls) (p.2 ++ [.lst []])).map fun h => (.mu p.2.length, h) := rfl
end L2
namespace L2
open PySem PySem.Spec PyProof.Rows
section
variable {ls : Ls} {hd : Hd} {a b c : MS} {ma mb mc : ME} {ta tb : MT} {m m1 m2 : MA} {n : MG} {ns : MGs} {d e : D}
@[simp] theorem ev_seq : mSeq a b ls hd = (a ls hd).bind fun p => match p.1 with
  | .nx ls1 => b ls1 p.2
  | f => some (f, p.2) := rfl
@[simp] theorem ev_next : mNext ls hd = some (.nx ls, hd) := rfl
@[simp] theorem ev_drop : mDrop ma ls hd = (ma ls hd).bind fun p => some (.nx ls, p.2) := rfl
@[simp] theorem ev_ret : mRet ma ls hd = (ma ls hd).bind fun p => some (.rt p.1, p.2) := rfl
@[simp] theorem ev_retN : mRetN ls hd = some (.rt (.im .non), hd) := rfl
@[simp] theorem ev_break : mBreak ls hd = some (.bk ls, hd) := rfl
@[simp] theorem ev_cont : mCont ls hd = some (.ct ls, hd) := rfl
@[simp] theorem ev_ifS : mIfS ta a b ls hd = (ta ls hd).bind fun p => if p.1 = true then a ls p.2 else b ls p.2 := rfl
@[simp] theorem ev_asg : mAsg ma n ls hd = (ma ls hd).bind fun p => (n p.1 ls p.2).map fun ls' => (.nx ls', p.2) := rfl
@[simp] theorem ev_name (i : Nat) : nName i d ls hd = some (ls.set i (some d)) := rfl
@[simp] theorem ev_ntup (k : Nat) : nTup k ns d ls hd = (tupView d).bind fun ds => if ds.length = k then ns ds ls hd else none := rfl
@[simp] theorem ev_ncons (d : D) (ds : List D) : nCons n ns (d :: ds) ls hd = (n d ls hd).bind fun ls1 => ns ds ls1 hd := rfl
@[simp] theorem ev_nnil : nNil [] ls hd = some ls := rfl
@[simp] theorem ev_par (ix : List Nat) : mPar ix m ls hd = (m ls hd).bind fun p => if p.1.length = ix.length then some (.nx ((ix.zip p.1).foldl (fun l q => l.set q.1 (some q.2)) ls), p.2) else none := rfl
@[simp] theorem ev_par3 (i j k : Nat) : mPar3 i j k m ls hd = mPar [k, j, i] (fun ls hd => (m ls hd).map fun p => (p.1.reverse, p.2)) ls hd := rfl
@[simp] theorem ev_var (i : Nat) : mVar i ls hd = match ls[i]? with
  | some (some d) => some (d, hd)
  | _ => none := rfl
@[simp] theorem ev_c (i : I) : mC i ls hd = some (.im i, hd) := rfl
@[simp] theorem ev_op (f : D -> D -> Hd -> Option (D × Hd)) : mOp f ma mb ls hd = (ma ls hd).bind fun p => (mb ls p.2).bind fun q => f p.1 q.1 q.2 := rfl
@[simp] theorem ev_and : mAnd ta tb ls hd = (ta ls hd).bind fun p => if p.1 = true then tb ls p.2 else some (false, p.2) := rfl
@[simp] theorem ev_or : mOr ta tb ls hd = (ta ls hd).bind fun p => if p.1 = true then some (true, p.2) else tb ls p.2 := rfl
@[simp] theorem ev_not : mNot ta ls hd = (ta ls hd).bind fun p => some (!p.1, p.2) := rfl
@[simp] theorem ev_tru : mTru ma ls hd = (ma ls hd).bind fun p => (truD p.2 p.1).map (·, p.2) := rfl
@[simp] theorem ev_test : mTest ma ls hd = (ma ls hd).bind fun p => match p.1 with
  | .im (.bl b) => some (b, p.2)
  | _ => none := rfl
@[simp] theorem ev_if : mIf ta ma mb ls hd = (ta ls hd).bind fun p => if p.1 = true then ma ls p.2 else mb ls p.2 := rfl
@[simp] theorem ev_andV : mAndV ma mb ls hd = (mTest ma ls hd).bind fun p => if p.1 = true then mb ls p.2 else some (.im (.bl false), p.2) := rfl
@[simp] theorem ev_orV : mOrV ma mb ls hd = (mTest ma ls hd).bind fun p => if p.1 = true then some (.im (.bl true), p.2) else mb ls p.2 := rfl
@[simp] theorem ev_notV : mNotV ma ls hd = (mTest ma ls hd).bind fun p => some (.im (.bl (!p.1)), p.2) := rfl
@[simp] theorem ev_nil : mNil ls hd = some ([], hd) := rfl
@[simp] theorem ev_cons : mCons ma m ls hd = (ma ls hd).bind fun p => (m ls p.2).bind fun q => some (p.1 :: q.1, q.2) := rfl
open Classical in
@[simp] theorem ev_tup : mTup m ls hd = (m ls hd).bind fun p => if fits p.1.length then some (mkTup p.1, p.2) else none := rfl
open Classical in
@[simp] theorem ev_lst : mLst m ls hd = (m ls hd).bind fun p => if fits p.1.length then some (p.1, p.2) else none := rfl
@[simp] theorem ev_new : mNew m ls hd = (m ls hd).bind fun p => some (.mu p.2.length, p.2 ++ [.lst p.1]) := rfl
@[simp] theorem ev_neg : mNeg ma ls hd = (ma ls hd).bind fun p => match p.1 with
  | .im (.int i) => some (.im (.int (-i)), p.2)
  | _ => none := rfl
@[simp] theorem ev_isN (neg : Bool) : mIsN neg ma ls hd = (ma ls hd).bind fun p => some (.im (.bl (match p.1 with
  | .im .non => !neg
  | _ => neg)), p.2) := rfl
@[simp] theorem ev_fI (g : Int -> Int -> Option I) (i j : Int) : fI g (.im (.int i)) (.im (.int j)) hd = (g i j).map (.im ·, hd) := rfl
@[simp] theorem ev_else (f g : D -> D -> Hd -> Option (D × Hd)) : fElse f g d e hd = match f d e hd with
  | some z => some z
  | none => g d e hd := rfl
@[simp] theorem ev_eqI (neg : Bool) (i j : Int) : gEqS neg (.im (.int i)) (.im (.int j)) hd = some (.im (.bl (if neg then !decide (i = j) else decide (i = j))), hd) := by simp [gEqS, scI, scal]
@[simp] theorem ev_eqX (neg : Bool) (i j : Str) : gEqS neg (.im (.str i)) (.im (.str j)) hd = some (.im (.bl (if neg then !decide (i = j) else decide (i = j))), hd) := by simp [gEqS, scI, scal]
@[simp] theorem ev_ix (i : Int) : gIx d (.im (.int i)) hd = (seqView hd d).bind fun ds => (atI ds i).map (·, hd) := rfl
@[simp] theorem ev_dget : gDGet d e hd = (dicView hd d).bind fun kvs => (keyD e).bind fun k => (valD kvs k).map (·, hd) := rfl
@[simp] theorem ev_cb (f : List D -> Hd -> Option (D × Hd)) : mCB f m ls hd = (m ls hd).bind fun p => f p.1 p.2 := rfl
@[simp] theorem ev_f1 (tp : Bool) (g : List D -> Option D) : f1 tp g [d] hd = ((if tp then seqView hd d else lstView hd d)).bind fun ds => (g ds).map (·, hd) := rfl
@[simp] theorem ev_hid (g : List D -> Option D) : mHid g m ls hd = (m ls hd).bind fun p => (g p.1).map (·, p.2) := rfl
@[simp] theorem ev_mt (f : D -> List D -> Hd -> Option (D × Hd)) : mMt f ma m ls hd = (ma ls hd).bind fun p => match lstView p.2 p.1 with
  | some _ => (m ls p.2).bind fun q => f p.1 q.1 q.2
  | none => none := rfl
@[simp] theorem ev_max2 (i j : Int) : fMax2 [.im (.int i), .im (.int j)] hd = some (.im (.int (if j > i then j else i)), hd) := rfl
@[simp] theorem ev_min2 (i j : Int) : fMin2 [.im (.int i), .im (.int j)] hd = some (.im (.int (if j < i then j else i)), hd) := rfl
@[simp] theorem ev_abs (i : Int) : fAbs [.im (.int i)] hd = some (.im (.int (if i < 0 then -i else i)), hd) := rfl
@[simp] theorem ev_ixH : mIxH m ma ls hd = (m ls hd).bind fun p => (ma ls p.2).bind fun q => match q.1 with
  | .im (.int i) => (atI p.1 i).map (·, q.2)
  | _ => none := rfl
@[simp] theorem ev_itT : mItT ma ls hd = (ma ls hd).bind fun p => (tupView p.1).map fun ds => ((ds, []), p.2) := rfl
@[simp] theorem ev_itH : mItH m ls hd = (m ls hd).map fun p => ((p.1, []), p.2) := rfl
@[simp] theorem ev_itL : mItL ma ls hd = (ma ls hd).bind fun p => match p.1 with
  | .mu n => match p.2[n]? with
    | some (.lst ds) => some ((ds, [(n, ds)]), p.2)
    | _ => none
  | .ro ns => some ((ns.map fun n => .im (.int n), []), p.2)
  | _ => none := rfl
open Classical in
@[simp] theorem ev_itR : mItR m ls hd = (m ls hd).bind fun p => match p.1 with
  | [.im (.int j)] => if rng1 j then some ((rangeD 0 j.toNat, []), p.2) else none
  | _ => none := rfl
open Classical in
@[simp] theorem ev_itR2 : mItR2 m ls hd = (m ls hd).bind fun p => match p.1 with
  | [.im (.int i), .im (.int j)] => if rng2 i j then some ((rangeD i (j - i).toNat, []), p.2) else none
  | _ => none := rfl
@[simp] theorem ev_for (mi : MI) : mFor mi n a ls hd = (mi ls hd).bind fun p => mLoop n a p.1.2 p.1.1 ls p.2 := rfl
open Classical in
@[simp] theorem ev_comp (k : Nat) (ix : List Nat) (mi : MI) : mComp k ix mi n ta ma ls hd = (mi ls hd).bind fun p => if fits p.1.1.length then mCompGo n ta ma p.1.2 p.1.1 (captD k ix ls) p.2 else none := rfl
@[simp] theorem ev_yes : mYes ls hd = some (true, hd) := rfl
@[simp] theorem ev_callG (F : List D -> Hd -> Option (D × Hd)) : mCallG F m ls hd = (m ls hd).bind fun p => F p.1 p.2 := rfl
@[simp] theorem ev_noPart : mNoPart ls hd = some (none, hd) := rfl
@[simp] theorem ev_part : mPart ma ls hd = (ma ls hd).bind fun p => match p.1 with
  | .im (.int i) => some (some i, p.2)
  | _ => none := rfl
@[simp] theorem ev_list : mList ma ls hd = (ma ls hd).bind fun p => (seqView p.2 p.1).map (·, p.2) := rfl
@[simp] theorem ev_listH : mListH m ls hd = m ls hd := rfl
@[simp] theorem ev_slL (ml mh : MO1) : mSlL ma ml mh ls hd = (ma ls hd).bind fun p => (ml ls p.2).bind fun l => (mh ls l.2).bind fun h => (lstView h.2 p.1).bind fun ds => some (cutD ds l.1 h.1, h.2) := rfl
@[simp] theorem ev_slT (ml mh : MO1) : mSlT ma ml mh ls hd = (ma ls hd).bind fun p => (ml ls p.2).bind fun l => (mh ls l.2).bind fun h => (tupView p.1).bind fun ds => if ¬ (HT.sIx ds.length 0 l.1 = 0 /\ HT.sIx ds.length ds.length h.1 = ds.length) then some (mkTup (cutD ds l.1 h.1), h.2) else none := rfl
@[simp] theorem ev_tupR : mTupR m ls hd = (mRng m ls hd).bind fun p => some (mkTup p.1, p.2) := rfl
open Classical in
@[simp] theorem ev_rng : mRng m ls hd = (m ls hd).bind fun p => match p.1 with
  | [.im (.int j)] => if rngL1 j then some (rangeD 0 j.toNat, p.2) else none
  | [.im (.int i), .im (.int j)] => if rngL2 i j then some (rangeD i (j - i).toNat, p.2) else none
  | _ => none := rfl
@[simp] theorem ev_sorted (mi : MI) : mSorted mi ls hd = (mi ls hd).bind fun p => (intsD p.1.1).bind fun ns => if ns.length < 64 then some ((sortI ns).map fun i => .im (.int i), p.2) else none := rfl
@[simp] theorem ev_disp (ms : List (ME × ME)) : mDisp ms ls hd = (mPairs ms ls hd).bind fun p => if p.1.length <= 15 then some (.mu p.2.length, p.2 ++ [.dic (mergeD [] p.1)]) else none := rfl
@[simp] theorem ev_pairs0 : mPairs [] ls hd = some ([], hd) := rfl
@[simp] theorem ev_pairs (r : List (ME × ME)) : mPairs ((ma, mb) :: r) ls hd = (ma ls hd).bind fun p => (mb ls p.2).bind fun q => (mPairs r ls q.2).bind fun z => (keyD p.1).map fun k => ((k, q.1) :: z.1, z.2) := rfl
open Classical in
@[simp] theorem ev_dput : mDPut ma mb mc ls hd = (mc ls hd).bind fun p => (ma ls p.2).bind fun q => (mb ls q.2).bind fun r => (keyD r.1).bind fun k => match q.1 with
  | .mu n => match r.2[n]? with
    | some (.dic kvs) => if fitsL kvs.length then some (.nx ls, r.2.set n (.dic (putD kvs k p.1))) else none
    | _ => none
  | _ => none := rfl
@[simp] theorem ev_lput : mLPut ma mb mc ls hd = (mc ls hd).bind fun p => (ma ls p.2).bind fun q => (mb ls q.2).bind fun r => match q.1, r.1 with
  | .mu n, .im (.int i) => match r.2[n]? with
    | some (.lst ds) => (ixN ds.length i).map fun j => (.nx ls, r.2.set n (.lst (ds.set j p.1)))
    | _ => none
  | _, _ => none := rfl
@[simp] theorem tv_tup (is : List I) : tupView (.im (.tup is)) = some (is.map .im) := rfl
@[simp] theorem tv_tm (ds : List D) : tupView (.tm ds) = some ds := rfl
@[simp] theorem tv_mu (k : Nat) : tupView (.mu k) = none := rfl
@[simp] theorem tv_ro (k : List Int) : tupView (.ro k) = none := rfl
@[simp] theorem sv_tup (is : List I) : seqView hd (.im (.tup is)) = some (is.map .im) := rfl
@[simp] theorem sv_tm (ds : List D) : seqView hd (.tm ds) = some ds := rfl
@[simp] theorem sv_mu (k : Nat) : seqView hd (.mu k) = lstView hd (.mu k) := rfl
@[simp] theorem sv_ro (k : List Int) : seqView hd (.ro k) = some (k.map fun n => .im (.int n)) := rfl
@[simp] theorem lv_mu (k : Nat) : lstView hd (.mu k) = match hd[k]? with
    | some (.lst ds) => some ds
    | _ => none := rfl
@[simp] theorem lv_ro (k : List Int) : lstView hd (.ro k) = some (k.map fun n => .im (.int n)) := rfl
@[simp] theorem dv_mu (k : Nat) : dicView hd (.mu k) = match hd[k]? with
    | some (.dic ds) => some ds
    | _ => none := rfl
@[simp] theorem key_i (i : Int) : keyD (.im (.int i)) = some (.inl i) := rfl
@[simp] theorem key_s (i : Str) : keyD (.im (.str i)) = some (.inr i) := rfl
@[simp] theorem ai_nil : allIm [] = some [] := rfl
@[simp] theorem ai_im (i : I) (r : List D) : allIm (.im i :: r) = (allIm r).map (i :: ·) := rfl
@[simp] theorem id_nil : intsD [] = some [] := rfl
@[simp] theorem id_int (i : Int) (r : List D) : intsD (.im (.int i) :: r) = (intsD r).map (i :: ·) := rfl
@[simp] theorem bd_nil : blsD [] = some [] := rfl
@[simp] theorem bd_bl (i : Bool) (r : List D) : blsD (.im (.bl i) :: r) = (blsD r).map (i :: ·) := rfl
@[simp] theorem mkTup_im (is : List I) : mkTup (is.map .im) = .im (.tup is) := by simp [mkTup]
@[simp] theorem mkTup_nil : mkTup [] = .im (.tup []) := rfl
@[simp] theorem mkTup_1 (i : I) : mkTup [.im i] = .im (.tup [i]) := rfl
@[simp] theorem mkTup_2 (i j : I) : mkTup [.im i, .im j] = .im (.tup [i, j]) := rfl
@[simp] theorem mkTup_3 (i j k : I) : mkTup [.im i, .im j, .im k] = .im (.tup [i, j, k]) := rfl
@[simp] theorem mkTup_4 (i j k l : I) : mkTup [.im i, .im j, .im k, .im l] = .im (.tup [i, j, k, l]) := rfl
@[simp] theorem clD_im (w : Nat) (i : I) : clD w (.im i) = true := by simp [clD]
@[simp] theorem clD_mu (w n : Nat) : clD w (.mu n) = decide (n < w) := by simp [clD]
@[simp] theorem clDs_nil (w : Nat) : clDs w [] = true := by simp [clDs]
@[simp] theorem clDs_cons (w : Nat) (d : D) (ds : List D) : clDs w (d :: ds) = (clD w d && clDs w ds) := by simp [clDs]
@[simp] theorem at_0 {α : Type} (x : α) (r : List α) : atI (x :: r) 0 = some x := atI_nat (j := 0) rfl
@[simp] theorem at_1 {α : Type} (x y : α) (r : List α) : atI (x :: y :: r) 1 = some y := atI_nat (j := 1) rfl
@[simp] theorem at_2 {α : Type} (x y z : α) (r : List α) : atI (x :: y :: z :: r) 2 = some z := atI_nat (j := 2) rfl
theorem at_k {α : Type} {xs : List α} {i : Int} {k : Nat} {x : α} (hi : i = k) (h : xs[k]? = some x) : atI xs i = some x := by subst hi; exact atI_nat h
@[simp] theorem fits_0 : fits 0 := fits_of (by decide)
@[simp] theorem fits_1 : fits 1 := fits_of (by decide)
@[simp] theorem fits_2 : fits 2 := fits_of (by decide)
@[simp] theorem fits_3 : fits 3 := fits_of (by decide)
@[simp] theorem fits_4 : fits 4 := fits_of (by decide)
@[simp] theorem fits_5 : fits 5 := fits_of (by decide)
open Classical in
@[simp] theorem ev_app (k : Nat) (x : D) : fAppend (.mu k) [x] hd = match hd[k]? with
    | some (.lst ds) => if fitsL ds.length then some (.im .non, hd.set k (.lst (ds ++ [x]))) else none
    | _ => none := rfl
theorem callW0_im {F : List D -> Hd -> Option (D × Hd)} {ds : List D} {hd1 h2 : Hd} {i : I} (h1 : m ls hd = some (ds, hd1)) (hc : clDs 0 ds = true) (hF : F ds [] = some (.im i, h2)) : mCallW 0 F m ls hd = some (.im i, hd1) := by
  simp [mCallW, h1, hc, hF, fin]
theorem callW_im {w : Nat} {F : List D -> Hd -> Option (D × Hd)} {ds : List D} {pre pre' rest g : Hd} {i : I} (hw : pre.length = w) (hw' : pre'.length = w) (h1 : m ls hd = some (ds, pre ++ rest)) (hc : clDs w ds = true) (hp : pre.all (clO w) = true) (hp' : pre'.all (clO w) = true) (hF : F ds pre = some (.im i, pre' ++ g)) : mCallW w F m ls hd = some (.im i, pre' ++ rest) := by
  subst hw
  have e1 : (pre ++ rest).take pre.length = pre := by simp
  have e2 : (pre' ++ g).take pre.length = pre' := by rw [<- hw']; simp
  simp only [mCallW, h1, Option.bind_some, e1, hc, hp, hF, fin, e2, hp']
  simp
end
theorem loop_nil {n : MG} {b : MS} {g : Gd} {ls : Ls} {hd : Hd} : mLoop n b g [] ls hd = some (.nx ls, hd) := by unfold mLoop; rfl
theorem loop_cons {n : MG} {b : MS} {g : Gd} {d : D} {r : List D} {ls ls1 ls2 : Ls} {hd hd2 : Hd} (h1 : n d ls hd = some ls1) (h2 : b ls1 hd = some (.nx ls2, hd2)) (h3 : GOk hd2 g) : mLoop n b g (d :: r) ls hd = mLoop n b g r ls2 hd2 := by
  conv => lhs; unfold mLoop
  simp [h1, h2, h3]
theorem loop_ret {n : MG} {b : MS} {g : Gd} {d v : D} {r : List D} {ls ls1 : Ls} {hd hd2 : Hd} (h1 : n d ls hd = some ls1) (h2 : b ls1 hd = some (.rt v, hd2)) : mLoop n b g (d :: r) ls hd = some (.rt v, hd2) := by
  conv => lhs; unfold mLoop
  simp [h1, h2]
end L2
namespace L2
open PySem PySem.Spec PyProof.Rows PySem.W
section
variable (r : Nat -> Int) (n : Nat)
def PWp {α : Type} : KasT α -> (α -> Prop) -> Prop
  | .ret a, Q => Q a
  | .ask i j k, Q => i < n /\ j < n /\ PWp (k (decide (r i < r j))) Q
def kv (p : Array Nat) (i : Nat) : Int := r (p.getD i 0)
def PAr (p : Array Nat) : Prop := p.Perm (List.range n).toArray
end
section
variable {r : Nat -> Int} {n : Nat}
theorem PWp.bind {α β : Type} {f : α -> KasT β} {Q : β -> Prop} : ∀ {t : KasT α}, PWp r n t (fun a => PWp r n (f a) Q) -> PWp r n (t.bind f) Q
  | .ret _, h => h
  | .ask i j k, h => ⟨h.1, h.2.1, PWp.bind h.2.2⟩
theorem PWp.mono {α : Type} {Q Q' : α -> Prop} : ∀ {t : KasT α}, PWp r n t Q -> (∀ a, Q a -> Q' a) -> PWp r n t Q'
  | .ret _, h, q => q _ h
  | .ask i j k, h, q => ⟨h.1, h.2.1, PWp.mono h.2.2 q⟩
theorem PAr.size {p : Array Nat} (h : PAr n p) : p.size = n := by have := h.size_eq; simpa using this
theorem PAr.lt {p : Array Nat} (h : PAr n p) {i : Nat} (hi : i < n) : p.getD i 0 < n := by
  have hs := h.size
  have hi' : i < p.size := by omega
  have : p[i] ∈ (List.range n).toArray := h.mem_iff.mp (Array.getElem_mem hi')
  have e : p.getD i 0 = p[i] := by simp [Array.getD, hi']
  rw [e]
  simpa using this
end
end L2
namespace L2
open PySem PySem.Spec PyProof.Rows PySem.W
def PairAt (h : Heap) (v : Value) (p : Int × Int) : Prop := ∃ (x : Addr) (o : Obj) (t u : Tok) (k : Nat), v = .ref x /\ h.get? x = some o /\ o.cls = .type "tuple" /\ o.data = .seq #[.int p.1 t, .int p.2 u] k
def pkey (p : Int × Int) : Int := p.1 * 4000000000 + p.2
def pok (p : Int × Int) : Prop := -1000000000 <= p.1 /\ p.1 <= 1000000000 /\ -1000000000 <= p.2 /\ p.2 <= 1000000000
section
variable {prog : Program} {w : World} {A : Around} {E : Value -> Shared -> Prop} {s : Shared}
end
end L2
namespace L2
open PySem PySem.Spec PyProof.Rows PySem.W
theorem PairAt.keep {h h' : Heap} {v : Value} {p : Int × Int} (k : ∀ b o, h.get? b = some o -> h'.get? b = some o) (q : PairAt h v p) : PairAt h' v p := by
  obtain ⟨x, o, t, u, n, e, ho, c, d⟩ := q
  exact ⟨x, o, t, u, n, e, k _ _ ho, c, d⟩
section
variable {prog : Program} {w : World} {A : Around} {E : Value -> Shared -> Prop} {s : Shared}
end
section
variable (K : PySem.W.Frag) {X : Cx}
end
def pairD (p : Int × Int) : D := .im (.tup [.int p.1, .int p.2])
def pairsD : List D -> Option (List (Int × Int))
  | [] => some []
  | .im (.tup [.int a, .int b]) :: r => (pairsD r).map ((a, b) :: ·)
  | _ => none
def sortP (ps : List (Int × Int)) : List (Int × Int) := ps.mergeSort fun a b => decide (pkey a <= pkey b)
open Classical in
noncomputable def mSortedP (m : MI) : MA := fun ls hd => (m ls hd).bind fun p => (pairsD p.1.1).bind fun ps => if ps.length < 64 /\ ∀ q ∈ ps, pok q then some ((sortP ps).map pairD, p.2) else none
section
variable {K : PySem.W.Frag} {ρ : List Addr} {H : Hp} {hd : Hd}
open Classical in
noncomputable def fPopAt : D -> List D -> Hd -> Option (D × Hd)
  | .mu n, [.im (.int i)], hd => match hd[n]? with
    | some (.lst ds) => if rng1 i then (ixN ds.length i).bind fun k => (ds[k]?).map fun y => (y, hd.set n (.lst (ds.eraseIdx k))) else none
    | _ => none
  | _, _, _ => none
theorem RDs.erase : ∀ {ds : List D} {xs : List V} (k : Nat), RDs K ρ H ds xs -> RDs K ρ H (ds.eraseIdx k) (xs.eraseIdx k)
  | [], _, _, h => by simp only [RDs] at h; subst h; simp [RDs]
  | d :: ds, _, 0, h => by simp only [RDs] at h; obtain ⟨x, r, rfl, _, t⟩ := h; simpa using t
  | d :: ds, _, k + 1, h => by
    simp only [RDs] at h
    obtain ⟨x, r, rfl, a, t⟩ := h
    simpa using RDs.cons a (RDs.erase k t)
end
end L2
namespace L2
open PySem PySem.Spec PyProof.Rows PySem.W
theorem rm_popAt {K : PySem.W.Frag} : RM K rPopAt fPopAt := by
  intro ρ H hd d v ds vs Q z hd' hR h1 h2 hf hQ
  unfold fPopAt at hf
  split at hf
  · split at hf
    · next q =>
      split at hf
      · next c =>
        obtain ⟨k, e0, hf⟩ := Option.bind_eq_some_iff.mp hf
        obtain ⟨y, e1, e3⟩ := Option.map_eq_some_iff.mp hf
        cases e3
        simp only [RD] at h1
        obtain ⟨a, hn, rfl⟩ := h1
        simp only [RDs, RD, RI] at h2
        obtain ⟨x, r, rfl, rfl, rfl⟩ := h2
        obtain ⟨xs, f1, f2⟩ := hR.lst hn q
        obtain ⟨x, x1, x3⟩ := f2.get e1
        obtain ⟨R2, x2⟩ := hR.put hn (o := .lst _) (ho := .lst (xs.eraseIdx k)) ⟨_, rfl, f2.erase k⟩
        obtain ⟨s1, s2, s3, s4⟩ := ixN_seq e0
        have sz := f2.len
        unfold rng1 at c
        exact ⟨a, xs, _, k, x, rfl, rfl, f1, by omega, by omega, by rw [sz]; exact s1, x1, hQ ρ _ _ x2 R2 (x3.ext hR x2)⟩
      · cases hf
    · cases hf
  · cases hf
section
variable (K : PySem.W.Frag) {X : Cx} {e : Expr} {te : TE} {p pos : Pos}
end
section
variable {ls : Ls} {hd : Hd}
open Classical in
@[simp] theorem ev_popAt (k : Nat) (i : Int) : fPopAt (.mu k) [.im (.int i)] hd = match hd[k]? with
    | some (.lst ds) => if rng1 i then (ixN ds.length i).bind fun j => (ds[j]?).map fun y => (y, hd.set k (.lst (ds.eraseIdx j))) else none
    | _ => none := rfl
open Classical in
@[simp] theorem ev_sortedP (mi : MI) : mSortedP mi ls hd = (mi ls hd).bind fun p => (pairsD p.1.1).bind fun ps => if ps.length < 64 /\ ∀ q ∈ ps, pok q then some ((sortP ps).map pairD, p.2) else none := rfl
end
end L2
namespace L2
open PySem PySem.Spec PyProof.Rows PySem.W
section
variable {m : ME} {ls : Ls} {hd hd' : Hd}
end
end L2
namespace L2
open PySem PySem.Spec PyProof.Rows PySem.W
end L2
namespace L2
open PySem
theorem ro_of {K : PySem.W.Frag} {H : Hp} {a : Addr} {xs : List V} (hO : Only H) (hS : SqL K H a xs) : RoL K H a xs := by
  rcases hS with (h | h) | h
  · rcases hO a with q | ⟨o, ys, q⟩
    · rw [q] at h; cases h
    · rw [q] at h; cases h
  · exact .inl h
  · exact .inr h
theorem sp_head {K : PySem.W.Frag} {H : Hp} {a : Addr} {ns : List Int} {F : List D -> Hd -> Option (D × Hd)} (hO : Only H) (hS : SqL K H a (ns.map V.int)) (hF : ∃ hd', F [.ro ns] [] = some (.im (.bl true), hd')) : spF K 1 F [.ref a] H (fun v _ => v = .bl true) fun _ _ _ => False := by
  obtain ⟨hd', e⟩ := hF
  refine ⟨rfl, [], [], [.ro ns], .im (.bl true), hd', ⟨rfl, List.nodup_nil, fun n o a h => by simp at h⟩, ?_, e, fun ρ' H' v _ _ r => ?_⟩
  · simp only [RDs, RD]
    exact ⟨_, _, rfl, ⟨a, rfl, ro_of hO hS⟩, rfl⟩
  · simpa only [RD, RI] using r
theorem walkD {l : PySem.W.OpenLaw} {n k : Nat} {q : Program} {loose : List Str} {XP : (Str -> Option Value) -> Heap -> Prop} {YP : World -> Heap -> Prop} {d : DefRec} {K : Params -> PySem.W.Frag} {F : List D -> Hd -> Option (D × Hd)}
    (hn : l.most = some n) (hn2 : n <= sizeLine) (hdf : d.params.defaults = []) (hr : Room k callerA)
    (hF : ∀ ns : List Int, ∃ hd', F [.ro ns] [] = some (.im (.bl true), hd'))
    (hY : ∀ (w : World) (h : Heap), YP w h -> (K w.params).In h)
    (G : ∀ (w : World) (mg : Str -> Option Value) (fa : Addr) (h : Heap), (K w.params).In h -> h.Ns mainGlobals mg -> mg d.name = some (.ref fa) ->
      ∃ fd : FuncData, (∀ (s : Shared) (u : Value), BindsTo s fd ⟨[u], []⟩ [("_law_script", u)]) /\
        ∀ base : Heap, (K w.params).In base -> base.Ns mainGlobals mg -> FnOk l.prog w (K w.params) mg base CX0 k fa fd ["_law_script"] (spF (K w.params) 1 F)) :
    PySem.W.WalkO q loose XP YP l.row.toRowW d [] (fun f vs => PySem.call f vs) :=
  L2.walk_of (n := n) (k := k) (x := "_law_script") (CX := fun _ => CX0) (sp := fun w => spF (K w.params) 1 F) hn hn2 hdf hr hY G (fun w H a ns _ hO hS => sp_head hO hS (hF ns)) fun _ _ _ _ _ z => z
end L2
namespace Bd
open PySem L2
@[reducible] noncomputable def m_steps_at : MS := (mSeq (mSet 2 (mC (.int 0)))
    (mSeq (mFor (mItT (mVar 0)) (nTup 2 (nCons (nName 3) (nCons (nName 4) nNil)))
      (mSeq (mIfS (mTest (mOp gGt (mVar 3) (mVar 1)))
      (mRet (mVar 2))
      mNext)
    (mSet 2 (mVar 4))))
    (mRet (mVar 2))))
noncomputable def F_steps_at : List D -> Hd -> Option (D × Hd) := mkF 2 5 m_steps_at
@[reducible] noncomputable def m_cost_at : MS := (mSeq (mSet 2 (mOp gIx (mVar 0) (mC (.int 0))))
    (mSeq (mIfS (mTest (mOp gEq (mVar 2) (mC (.str "steps"))))
      (mRet (mCallW 0 F_steps_at (mCons (mOp gIx (mVar 0) (mC (.int 1))) (mCons (mVar 1) mNil))))
      mNext)
    (mSeq (mIfS (mTest (mOp gEq (mVar 2) (mC (.str "ends"))))
      (mRet (mOp gMul (mOp gIx (mVar 0) (mC (.int 1))) (mVar 1)))
      mNext)
    (mSeq (mSet 3 (mOp gSubt (mVar 1) (mOp gIx (mVar 0) (mC (.int 1)))))
    (mSeq (mIfS (mTest (mOp gEq (mVar 2) (mC (.str "late"))))
      (mRet (mVar 3))
      mNext)
    (mSeq (mIfS (mTest (mOp gLe (mVar 3) (mC (.int 0))))
      (mRet (mC (.int 0)))
      mNext)
    (mSeq (mIfS (mTest (mOp gEq (mVar 2) (mC (.str "tardy"))))
      (mRet (mOp gMul (mOp gIx (mVar 0) (mC (.int 2))) (mVar 3)))
      mNext)
    (mRet (mOp gIx (mVar 0) (mC (.int 2)))))))))))
noncomputable def F_cost_at : List D -> Hd -> Option (D × Hd) := mkF 2 4 m_cost_at
@[reducible] noncomputable def m_costs_of : MS := (mRet (mHid kTuple (mComp 2 [] (mZip (mItT (mVar 0)) (mItT (mVar 1))) (nTup 2 (nCons (nName 0) (nCons (nName 1) nNil))) mYes (mCallW 0 F_cost_at (mCons (mOp gIx (mVar 0) (mC (.int 2))) (mCons (mVar 1) mNil))))))
noncomputable def F_costs_of : List D -> Hd -> Option (D × Hd) := mkF 2 2 m_costs_of
@[reducible] noncomputable def m_worth : MS := (mSeq (mSet 3 (mCallW 0 F_costs_of (mCons (mVar 0) (mCons (mVar 1) mNil))))
    (mSeq (mIfS (mTest (mOp gEq (mVar 2) (mC (.str "greatest"))))
      (mRet (mCB (f1 true kMax) (mCons (mVar 3) mNil)))
      mNext)
    (mRet (mCB (f1 true kSum) (mCons (mVar 3) mNil)))))
noncomputable def F_worth : List D -> Hd -> Option (D × Hd) := mkF 3 4 m_worth
@[reducible] noncomputable def m_run : MS := (mSeq (mSet 2 (mNew (mLst mNil)))
    (mSeq (mSet 3 (mC (.int 0)))
    (mSeq (mFor (mItT (mVar 1)) (nName 4)
      (mSeq (mAsg (mOp gIx (mVar 0) (mVar 4)) (nTup 3 (nCons (nName 5) (nCons (nName 6) (nCons (nName 7) nNil)))))
    (mSeq (mSet 8 (mCB fMax2 (mCons (mVar 6) (mCons (mVar 3) mNil))))
    (mSeq (mSet 3 (mOp gAddA (mVar 8) (mVar 5)))
    (mDrop (mMt fAppend (mVar 2) (mCons (mTup (mCons (mVar 4) (mCons (mVar 8) (mCons (mVar 3) mNil)))) mNil)))))))
    (mRet (mCB (f1 true kTuple) (mCons (mVar 2) mNil))))))
noncomputable def F_run : List D -> Hd -> Option (D × Hd) := mkF 2 9 m_run
@[reducible] noncomputable def m_ends_of : MS := (mSeq (mSet 2 (mNew (mComp 1 [] (mItT (mVar 0)) (nName 0) mYes (mC (.int 0)))))
    (mSeq (mFor (mItT (mVar 1)) (nTup 3 (nCons (nName 3) (nCons (nName 4) (nCons (nName 5) nNil))))
      (mLPut (mVar 2) (mVar 3) (mVar 5)))
    (mRet (mCB (f1 true kTuple) (mCons (mVar 2) mNil)))))
noncomputable def F_ends_of : List D -> Hd -> Option (D × Hd) := mkF 2 6 m_ends_of
@[reducible] noncomputable def m_pick : MS := (mSeq (mDPut (mVar 0) (mC (.str "turn")) (mOp gAddA (mOp gDGet (mVar 0) (mC (.str "turn"))) (mC (.int 1))))
    (mSeq (mIfS (mTest (mOp gGt (mOp gDGet (mVar 0) (mC (.str "left"))) (mC (.int 0))))
      (mSeq (mSet 2 (mOp gMod (mOp gDGet (mVar 0) (mC (.str "left"))) (mVar 1)))
    (mSeq (mDPut (mVar 0) (mC (.str "left")) (mOp gFdiv (mOp gDGet (mVar 0) (mC (.str "left"))) (mVar 1)))
    (mRet (mVar 2))))
      mNext)
    (mSeq (mPar3 3 4 5 (mCons (mOp gDGet (mVar 0) (mC (.str "cells"))) (mCons (mOp gDGet (mVar 0) (mC (.str "next"))) (mCons (mOp gDGet (mVar 0) (mC (.str "turn"))) mNil))))
    (mSeq (mSet 6 (mIf (mTest (mEqEN true (mVar 3) (mLst mNil))) (mOp gIx (mVar 3) (mOp gMod (mVar 4) (mCB (f1 true kLen) (mCons (mVar 3) mNil)))) (mC (.int 23))))
    (mSeq (mDPut (mVar 0) (mC (.str "next")) (mOp gAddA (mVar 4) (mC (.int 1))))
    (mSeq (mIfS (mAnd (mTest (mOp gGe (mVar 6) (mOp gPow (mC (.int 10)) (mC (.int 18))))) (mTest (mOp gLt (mVar 4) (mCB (f1 true kLen) (mCons (mVar 3) mNil)))))
      (mSeq (mDPut (mVar 0) (mC (.str "left")) (mOp gFdiv (mVar 6) (mVar 1)))
    (mRet (mOp gMod (mVar 6) (mVar 1))))
      mNext)
    (mSeq (mSet 7 (mOp gMod (mOp gAddA (mOp gAddA (mOp gMod (mVar 6) (mC (.int 2147483587))) (mOp gMul (mC (.int 104729)) (mVar 5))) (mC (.int 17))) (mC (.int 2147483629))))
    (mSeq (mSet 7 (mOp gMod (mOp gAddA (mOp gMul (mVar 7) (mVar 7)) (mOp gMul (mC (.int 48271)) (mVar 5))) (mC (.int 2147483647))))
    (mSeq (mSet 7 (mOp gMod (mOp gAddA (mOp gAddA (mOp gMul (mVar 7) (mVar 7)) (mOp gMul (mC (.int 7919)) (mVar 7))) (mVar 5)) (mC (.int 2147483629))))
    (mRet (mOp gMod (mOp gFdiv (mVar 7) (mC (.int 128))) (mVar 1))))))))))))
noncomputable def F_pick : List D -> Hd -> Option (D × Hd) := mkF 2 8 m_pick
end Bd
namespace Bd
open PySem L2
structure Tp where
  cells : List Int
  nx : Int
  lf : Int
  tn : Int
def tapeD (t : Tp) : List (Key × D) := [(.inr "cells", .mu 0), (.inr "next", .im (.int t.nx)), (.inr "left", .im (.int t.lf)), (.inr "turn", .im (.int t.tn))]
def tp (t : Tp) : Hd := [.lst (t.cells.map fun i => .im (.int i)), .dic (tapeD t)]
@[simp] theorem tp_len (t : Tp) : (tp t).length = 2 := rfl
@[simp] theorem tp_0 (t : Tp) (r : Hd) : (tp t ++ r)[0]? = some (.lst (t.cells.map fun i => .im (.int i))) := rfl
@[simp] theorem tp_1 (t : Tp) (r : Hd) : (tp t ++ r)[1]? = some (.dic (tapeD t)) := rfl
@[simp] theorem tp0 (t : Tp) : (tp t)[0]? = some (.lst (t.cells.map fun i => .im (.int i))) := rfl
@[simp] theorem tp1 (t : Tp) : (tp t)[1]? = some (.dic (tapeD t)) := rfl
section
variable (t : Tp) (v : Int)
@[simp] theorem td_len : (tapeD t).length = 4 := rfl
end
theorem pys_ints : ∀ ns : List Int, I.pys (ns.map I.int) = ns.map PyData.int
  | [] => by simp [I.pys]
  | n :: ns => by simp [I.pys, I.py, pys_ints ns]
theorem allIm_ints (ns : List Int) : allIm (ns.map fun i => D.im (.int i)) = some (ns.map I.int) := by
  have : (ns.map fun i => D.im (.int i)) = (ns.map I.int).map D.im := by rw [List.map_map]; rfl
  rw [this]; exact allIm_map _
theorem eqv_nil (ns : List Int) : PyData.eqv (.list (ns.map PyData.int)) (.list []) = decide (ns = []) := by
  cases ns <;> simp [PyData.eqv, PyData.eqvAll]
theorem lay_ints (ns : List Int) : (PyData.list (ns.map PyData.int)).canLay0 = true := by simp [PyData.canLay0, canLay_ints]
theorem cmp_nil (ns : List Int) (hd : Hd) (neg : Bool) : eqvP neg (.list (ns.map PyData.int)) (.list []) hd = some (.im (.bl (if neg then !decide (ns = []) else decide (ns = []))), hd) := by
  unfold eqvP
  rw [if_pos, eqv_nil]
  refine ⟨lay_ints ns, by simp [PyData.canLay0, PyData.canLayAll0], ?_⟩
  have : (PyData.list []).depth <= 1 := by simp [PyData.depth, PyData.depthAll]
  omega
end Bd
namespace Bd
open PySem L2
theorem modlt {x : Int} (m : Int) (h : 0 < m) : 0 <= x % m /\ x % m < m := ⟨Int.emod_nonneg _ (by omega), Int.emod_lt_of_pos _ h⟩
theorem cmp_nn (hd : Hd) (neg : Bool) : eqvP neg (.list []) (.list []) hd = some (.im (.bl (if neg then false else true)), hd) := by
  have := cmp_nil [] hd neg
  simpa using this
theorem atmod {xs : List Int} (h : xs ≠ []) (n : Int) : ∃ c, atI (xs.map fun i => D.im (.int i)) (n % (xs.length : Int)) = some (.im (.int c)) := by
  have hl : 0 < xs.length := len_pos h
  obtain ⟨a, b⟩ := modlt (x := n) (xs.length : Int) (by omega)
  obtain ⟨k, hk⟩ := Int.eq_ofNat_of_zero_le a
  have hk' : k < xs.length := by omega
  exact ⟨xs[k], at_k hk (by simp [hk'])⟩
theorem po1 : powOk 10 18 := by unfold powOk; decide
end Bd
namespace Bd
open PySem L2
inductive Cost where
  | late (d : Int) | tardy (d w : Int) | miss (d w : Int) | ends (w : Int) | steps (rows : List (Int × Int))
def rowI (r : Int × Int) : I := .tup [.int r.1, .int r.2]
def costI : Cost -> I
  | .late d => .tup [.str "late", .int d]
  | .tardy d w => .tup [.str "tardy", .int d, .int w]
  | .miss d w => .tup [.str "miss", .int d, .int w]
  | .ends w => .tup [.str "ends", .int w]
  | .steps rows => .tup [.str "steps", .tup (rows.map rowI)]
def stepsAt (t : Int) : List (Int × Int) -> Int -> Int
  | [], told => told
  | (b, a) :: r, told => if t < b then told else stepsAt t r a
def Cost.at : Cost -> Int -> Int
  | .late d, t => t - d
  | .tardy d w, t => if t - d <= 0 then 0 else w * (t - d)
  | .miss d w, t => if t - d <= 0 then 0 else w
  | .ends w, t => w * t
  | .steps rows, t => stepsAt t rows 0
def Cost.wok : Cost -> Prop
  | .tardy _ w => 0 <= w /\ w <= 1000000
  | .miss _ w => 0 <= w /\ w <= 1000000
  | .ends w => 0 <= w /\ w <= 1000000
  | _ => True
theorem n1 : ¬ (("late" : Str) = "steps") := by decide +kernel
theorem n2 : ¬ (("tardy" : Str) = "steps") := by decide +kernel
theorem n3 : ¬ (("miss" : Str) = "steps") := by decide +kernel
theorem n4 : ¬ (("ends" : Str) = "steps") := by decide +kernel
theorem n5 : ¬ (("late" : Str) = "ends") := by decide +kernel
theorem n6 : ¬ (("tardy" : Str) = "ends") := by decide +kernel
theorem n7 : ¬ (("miss" : Str) = "ends") := by decide +kernel
theorem n8 : ¬ (("tardy" : Str) = "late") := by decide +kernel
theorem n9 : ¬ (("miss" : Str) = "late") := by decide +kernel
theorem n10 : ¬ (("miss" : Str) = "tardy") := by decide +kernel
theorem n12 : ¬ (("steps" : Str) = "late") := by decide +kernel
theorem steps_loop (t : Int) (z : D) (hd : Hd) : ∀ (rows : List (Int × Int)) (told : Int) (x y : Option D), ∃ fl x' y', mLoop (nTup 2 (nCons (nName 3) (nCons (nName 4) nNil))) (mSeq (mIfS (mTest (mOp gGt (mVar 3) (mVar 1))) (mRet (mVar 2)) mNext) (mSet 2 (mVar 4))) [] ((rows.map rowI).map .im)
      [some z, some (.im (.int t)), some (.im (.int told)), x, y] hd = some (fl, hd) /\ (fl = .rt (.im (.int (stepsAt t rows told))) ∨ fl = .nx [some z, some (.im (.int t)), some (.im (.int (stepsAt t rows told))), x', y'])
  | [], told, x, y => ⟨_, x, y, loop_nil, .inr rfl⟩
  | (b, a) :: rows, told, x, y => by
    by_cases h : t < b
    · refine ⟨_, x, y, loop_ret (ls1 := [some z, some (.im (.int t)), some (.im (.int told)), some (.im (.int b)), some (.im (.int a))]) (by simp [rowI]) (v := .im (.int told)) (hd2 := hd) ?_, .inl ?_⟩
      · simp [h]
      · simp [stepsAt, h]
    · obtain ⟨fl, x', y', e, q⟩ := steps_loop t z hd rows a (some (.im (.int b))) (some (.im (.int a)))
      refine ⟨fl, x', y', ?_, ?_⟩
      · rw [<- e]
        refine loop_cons (ls1 := [some z, some (.im (.int t)), some (.im (.int told)), some (.im (.int b)), some (.im (.int a))]) (by simp [rowI]) ?_ (gok_nil _)
        simp [h]
      · simpa [stepsAt, h] using q
theorem steps_at_eq (rows : List (Int × Int)) (t : Int) : F_steps_at [.im (.tup (rows.map rowI)), .im (.int t)] [] = some (.im (.int (stepsAt t rows 0)), []) := by
  obtain ⟨fl, x', y', e, q⟩ := steps_loop t (.im (.tup (rows.map rowI))) [] rows 0 none none
  rcases q with rfl | rfl
  · simp [F_steps_at, mkF] at e ⊢
    simp [e]
  · simp [F_steps_at, mkF] at e ⊢
    simp [e]
theorem cost_at_eq (c : Cost) (t : Int) (h : c.wok) : F_cost_at [.im (costI c), .im (.int t)] [] = some (.im (.int (c.at t)), []) := by
  cases c with
  | late d => simp [F_cost_at, mkF, costI, n1, n5, Cost.at]
  | tardy d w =>
    have b1 : ∀ j, mulOk w j := fun j => mulOk_l (by obtain ⟨a, b⟩ := h; omega) (by obtain ⟨a, b⟩ := h; omega)
    by_cases q : t - d <= 0
    · simp [F_cost_at, mkF, costI, n2, n6, n8, Cost.at, q]
    · simp [F_cost_at, mkF, costI, n2, n6, n8, Cost.at, q, b1]
  | miss d w =>
    by_cases q : t - d <= 0
    · simp [F_cost_at, mkF, costI, n3, n7, n9, Cost.at, q]
    · simp [F_cost_at, mkF, costI, n3, n7, n9, n10, Cost.at, q]
  | ends w =>
    have b1 : ∀ j, mulOk w j := fun j => mulOk_l (by obtain ⟨a, b⟩ := h; omega) (by obtain ⟨a, b⟩ := h; omega)
    simp [F_cost_at, mkF, costI, n4, Cost.at, b1]
  | steps rows =>
    have := callW0_im (m := mCons (mOp gIx (mVar 0) (mC (.int 1))) (mCons (mVar 1) mNil)) (ls := [some (.im (costI (.steps rows))), some (.im (.int t)), some (.im (.str "steps")), none]) (hd := []) (hd1 := []) (F := F_steps_at) (ds := [.im (.tup (rows.map rowI)), .im (.int t)]) (by simp [costI]) (by simp) (steps_at_eq rows t)
    simp [costI] at this
    simp [F_cost_at, mkF, costI, Cost.at, this]
end Bd
namespace Bd
open PySem L2
@[simp high] theorem tp_2 (t : Tp) (x : MO) (r : Hd) : (tp t ++ (x :: r))[2]? = some x := rfl
@[simp high] theorem tp_3 (t : Tp) (x y : MO) (r : Hd) : (tp t ++ (x :: y :: r))[3]? = some y := rfl
@[simp high] theorem tp_4 (t : Tp) (x y z : MO) (r : Hd) : (tp t ++ (x :: y :: z :: r))[4]? = some z := rfl
@[simp high] theorem tps_2 (t : Tp) (x y : MO) (r : Hd) : (tp t ++ (x :: r)).set 2 y = tp t ++ (y :: r) := rfl
@[simp high] theorem tps_3 (t : Tp) (x y z : MO) (r : Hd) : (tp t ++ (x :: y :: r)).set 3 z = tp t ++ (x :: z :: r) := rfl
theorem clDs_ints (w : Nat) (ns : List Int) : clDs w (ns.map fun i => D.im (.int i)) = true := by induction ns <;> simp_all [clDs, clD]
@[simp] theorem tp_cl (t : Tp) : (tp t).all (clO 2) = true := by simp [tp, clO, clDs_ints, tapeD, clKs, clD]
structure Drawn (τ : Tp) (many : Int) (r : Int) (τ' : Tp) : Prop where
  lo : 0 <= r
  hi : r < many
  cl : τ'.cells = τ.cells
  eq : F_pick [.mu 1, .im (.int many)] (tp τ) = some (.im (.int r), tp τ')
theorem Drawn.gen {τ τ' : Tp} {many r : Int} (h : Drawn τ many r τ') {ls : Ls} {hd rest : Hd} {m : MA} (e : m ls hd = some ([.mu 1, .im (.int many)], tp τ ++ rest)) : mCallW 2 F_pick m ls hd = some (.im (.int r), tp τ' ++ rest) :=
  callW_im (w := 2) (ds := [.mu 1, .im (.int many)]) (pre := tp τ) (pre' := tp τ') (rest := rest) (g := []) rfl rfl e (by simp) (tp_cl _) (tp_cl _) (by rw [List.append_nil]; exact h.eq)
theorem Drawn.c {τ τ' : Tp} {many r : Int} (h : Drawn τ many r τ') (ls : Ls) (rest : Hd) (i : Nat) (hi : ls[i]? = some (some (.mu 1))) : mCallW 2 F_pick (mCons (mVar i) (mCons (mC (.int many)) mNil)) ls (tp τ ++ rest) = some (.im (.int r), tp τ' ++ rest) := h.gen (by simp [hi])
theorem Drawn.v {τ τ' : Tp} {many r : Int} (h : Drawn τ many r τ') (ls : Ls) (rest : Hd) (i j : Nat) (hi : ls[i]? = some (some (.mu 1))) (hj : ls[j]? = some (some (.im (.int many)))) : mCallW 2 F_pick (mCons (mVar i) (mCons (mVar j) mNil)) ls (tp τ ++ rest) = some (.im (.int r), tp τ' ++ rest) := h.gen (by simp [hi, hj])
def RowsOk (lo bot : Int) : List (Int × Int) -> Prop
  | [] => True
  | (b, a) :: r => lo < b /\ b <= lo + 40 /\ bot <= a /\ a <= bot + 19 /\ RowsOk b a r
def Cost.ok : Cost -> Prop
  | .late d => -99 <= d /\ d <= 400
  | .tardy d w => (-99 <= d /\ d <= 400) /\ 0 <= w /\ w <= 9
  | .miss d w => (-99 <= d /\ d <= 400) /\ 0 <= w /\ w <= 9
  | .ends w => 0 <= w /\ w <= 9
  | .steps rows => rows ≠ [] /\ rows.length <= 5 /\ ∃ lo, -99 <= lo /\ lo <= 200 /\ RowsOk lo 0 rows
end Bd
namespace Bd
open PySem L2
structure Wk where
  len : Int
  com : Int
  cost : Cost
def workI (w : Wk) : I := .tup [.int w.len, .int w.com, costI w.cost]
structure Wk.ok (w : Wk) : Prop where
  l1 : 1 <= w.len
  l2 : w.len <= 20
  c1 : 0 <= w.com
  c2 : w.com <= 60
  co : w.cost.ok
abbrev worksI (ws : List Wk) : I := .tup (ws.map workI)
structure DrawnI (F : List D -> Hd -> Option (D × Hd)) (τ : Tp) (as : List D) (i : I) (τ' : Tp) : Prop where
  cl : τ'.cells = τ.cells
  eq : ∃ g, F (.mu 1 :: as) (tp τ) = some (.im i, tp τ' ++ g)
theorem DrawnI.gen {F : List D -> Hd -> Option (D × Hd)} {τ τ' : Tp} {as : List D} {i : I} (h : DrawnI F τ as i τ') {ls : Ls} {hd rest : Hd} {m : MA} (e : m ls hd = some (.mu 1 :: as, tp τ ++ rest)) (ha : clDs 2 as = true) : mCallW 2 F m ls hd = some (.im i, tp τ' ++ rest) := by
  obtain ⟨g, q⟩ := h.eq
  exact callW_im (w := 2) (ds := .mu 1 :: as) (pre := tp τ) (pre' := tp τ') (rest := rest) (g := g) rfl rfl e (by simp [ha]) (tp_cl _) (tp_cl _) q
end Bd
namespace L2
theorem comp_map {α : Type} {n : MG} {c : MT} {m : ME} {g : Gd} {hd : Hd} (hg : GOk hd g) (f : α -> D) (k : α -> Option D) : ∀ {xs : List α} {ls : Ls} (P : Ls -> Prop), P ls ->
    (∀ x ∈ xs, ∀ ls, P ls -> ∃ ls1, n (f x) ls hd = some ls1 /\ P ls1 /\ ((k x = none /\ c ls1 hd = some (false, hd)) ∨ ∃ z, k x = some z /\ c ls1 hd = some (true, hd) /\ m ls1 hd = some (z, hd))) -> mCompGo n c m g (xs.map f) ls hd = some (xs.filterMap k, hd)
  | [], ls, P, h, _ => by unfold mCompGo; rfl
  | x :: r, ls, P, h, q => by
    obtain ⟨ls1, e1, p1, q1⟩ := q x List.mem_cons_self ls h
    have ih := comp_map hg f k (xs := r) (ls := ls1) P p1 fun d hd ls hp => q d (List.mem_cons_of_mem _ hd) ls hp
    rw [List.map_cons]
    unfold mCompGo
    rcases q1 with ⟨kn, c1⟩ | ⟨z, kz, c1, m1⟩
    · simp [e1, c1, hg, ih, kn]
    · simp [e1, c1, m1, hg, ih, kz]
theorem comp_all {α : Type} {n : MG} {m : ME} {g : Gd} {hd : Hd} (hg : GOk hd g) (f : α -> D) (k : α -> D) {xs : List α} {ls : Ls} (P : Ls -> Prop) (h : P ls)
    (q : ∀ x ∈ xs, ∀ ls, P ls -> ∃ ls1, n (f x) ls hd = some ls1 /\ P ls1 /\ m ls1 hd = some (k x, hd)) : mCompGo n mYes m g (xs.map f) ls hd = some (xs.map k, hd) := by
  have := comp_map (c := mYes) hg f (fun x => some (k x)) (xs := xs) P h fun x hx ls hp => by
    obtain ⟨ls1, e1, p1, e2⟩ := q x hx ls hp
    exact ⟨ls1, e1, p1, .inr ⟨_, rfl, rfl, e2⟩⟩
  rw [this]
  simp
end L2
namespace Bd
open PySem L2
abbrev intsI (es : List Int) : I := .tup (es.map I.int)
def costsL (ws : List Wk) (es : List Int) : List Int := List.zipWith (fun w e => w.cost.at e) ws es
theorem zip_items (ws : List Wk) (es : List Int) : List.zipWith (fun x y => mkTup [x, y]) ((ws.map workI).map D.im) ((es.map I.int).map D.im) = (List.zip ws es).map fun p => D.im (.tup [workI p.1, .int p.2]) := by
  induction ws generalizing es with
  | nil => simp
  | cons w ws ih =>
    cases es with
    | nil => simp
    | cons e es => simp only [List.map_cons, List.zipWith_cons_cons, List.zip_cons_cons, mkTup_2, ih]
theorem costsL_zip (ws : List Wk) (es : List Int) : (List.zip ws es).map (fun p => p.1.cost.at p.2) = costsL ws es := by
  unfold costsL
  rw [List.zip_eq_zipWith, List.map_zipWith]
theorem im_ints (ns : List Int) : (ns.map fun i => D.im (.int i)) = (ns.map I.int).map D.im := by rw [List.map_map]; rfl
theorem mkTup_ints (ns : List Int) : mkTup (ns.map fun i => D.im (.int i)) = .im (intsI ns) := by rw [im_ints]; exact mkTup_im _
theorem costs_of_eq (ws : List Wk) (es : List Int) (h : ∀ w ∈ ws, w.cost.wok) (hl : ws.length <= 1000) : F_costs_of [.im (worksI ws), .im (intsI es)] [] = some (.im (intsI (costsL ws es)), []) := by
  have hz : fits (List.zip ws es).length := fits_of (by simp; omega)
  have hc := comp_all (hd := []) (n := nTup 2 (nCons (nName 0) (nCons (nName 1) nNil))) (m := mCallW 0 F_cost_at (mCons (mOp gIx (mVar 0) (mC (.int 2))) (mCons (mVar 1) mNil))) (gok_nil []) (fun p : Wk × Int => D.im (.tup [workI p.1, .int p.2])) (fun p => .im (.int (p.1.cost.at p.2))) (xs := List.zip ws es) (ls := [none, none]) (fun ls => ls.length = 2) rfl fun p hp ls hls => by
    match ls, hls with
    | [a, b], _ =>
      refine ⟨[some (.im (workI p.1)), some (.im (.int p.2))], by simp, rfl, ?_⟩
      exact callW0_im (ds := [.im (costI p.1.cost), .im (.int p.2)]) (by simp [workI]) (by simp) (cost_at_eq p.1.cost p.2 (h p.1 (List.of_mem_zip hp).1))
  have hi : List.map (fun p : Wk × Int => D.im (.int (p.1.cost.at p.2))) (List.zip ws es) = (costsL ws es).map fun i => D.im (.int i) := by rw [<- costsL_zip, List.map_map]; rfl
  have gk : GOk [] [] := gok_nil []
  simp only [F_costs_of, mkF, m_costs_of, ev_ret, ev_hid, ev_comp, mZip, ev_itT, ev_var, List.map_cons, List.map_nil, List.length_cons, List.length_nil, List.cons_append, List.nil_append, List.replicate, Nat.reduceAdd, Nat.reduceSub, if_true, List.getElem?_cons_zero, List.getElem?_cons_succ, Option.bind_some, tv_tup, Option.map_some, gk, zip_items, List.length_map, hz, captD, List.append_nil]
  rw [hc, hi]
  simp [kTuple, mkTup_ints]
theorem gr_ne : ¬ (("sum" : Str) = "greatest") := by decide +kernel
theorem worth_sum (ws : List Wk) (es : List Int) (h : ∀ w ∈ ws, w.cost.wok) (hl : ws.length <= 1000) : F_worth [.im (worksI ws), .im (intsI es), .im (.str "sum")] [] = some (.im (.int (costsL ws es).sum), []) := by
  have e := callW0_im (m := mCons (mVar 0) (mCons (mVar 1) mNil)) (ls := [some (.im (worksI ws)), some (.im (intsI es)), some (.im (.str "sum")), none]) (hd := []) (F := F_costs_of) (ds := [.im (worksI ws), .im (intsI es)]) (hd1 := []) (by simp) (by simp) (costs_of_eq ws es h hl)
  have k : (intsD ((costsL ws es).map I.int |>.map D.im)) = some (costsL ws es) := by rw [<- im_ints]; exact intsD_map _
  simp only [F_worth, mkF, m_worth, ev_seq, ev_asg, List.map_cons, List.map_nil, List.length_cons, List.length_nil, List.cons_append, List.nil_append, List.replicate, Nat.reduceAdd, Nat.reduceSub, if_true]
  rw [e]
  simp only [Option.bind_some, ev_name, Option.map_some, List.set_cons_succ, List.set_cons_zero, ev_ifS, ev_test, ev_op, ev_var, List.getElem?_cons_zero, List.getElem?_cons_succ, ev_c, ev_else, ev_eqX, if_true, gr_ne, decide_false, ev_next, ev_ret, ev_cb, ev_cons, ev_nil, ev_f1, sv_tup, kSum, k, if_false, Bool.false_eq_true]
def pieceI (p : Nat × Int × Int) : I := .tup [.int p.1, .int p.2.1, .int p.2.2]
def runL (ws : List Wk) : List Nat -> Int -> List (Nat × Int × Int)
  | [], _ => []
  | k :: r, e => match ws[k]? with
    | some w => (k, (if e > w.com then e else w.com), (if e > w.com then e else w.com) + w.len) :: runL ws r ((if e > w.com then e else w.com) + w.len)
    | none => []
abbrev natsI (ks : List Nat) : I := .tup (ks.map fun k : Nat => .int k)
theorem map_zero {α : Type} (ws : List α) : ws.map (fun _ => D.im (.int 0)) = (List.replicate ws.length 0).map fun i => D.im (.int i) := by induction ws <;> simp_all [List.replicate_succ]
noncomputable abbrev runBody : MS := (mSeq (mAsg (mOp gIx (mVar 0) (mVar 4)) (nTup 3 (nCons (nName 5) (nCons (nName 6) (nCons (nName 7) nNil)))))
    (mSeq (mSet 8 (mCB fMax2 (mCons (mVar 6) (mCons (mVar 3) mNil))))
    (mSeq (mSet 3 (mOp gAddA (mVar 8) (mVar 5)))
    (mDrop (mMt fAppend (mVar 2) (mCons (mTup (mCons (mVar 4) (mCons (mVar 8) (mCons (mVar 3) mNil)))) mNil))))))
theorem run_loop (ws : List Wk) (o : D) : ∀ (ks : List Nat) (e : Int) (ps : List (Nat × Int × Int)) (a b c d f : Option D), (∀ k ∈ ks, k < ws.length) -> ps.length + ks.length <= 1000 -> ∃ e' a' b' c' d' f', mLoop (nName 4) runBody [] (ks.map fun k : Nat => .im (.int k))
      [some (.im (worksI ws)), some o, some (.mu 0), some (.im (.int e)), a, b, c, d, f] [.lst (ps.map fun p => .im (pieceI p))] = some (.nx [some (.im (worksI ws)), some o, some (.mu 0), e', a', b', c', d', f'], [.lst ((ps ++ runL ws ks e).map fun p => .im (pieceI p))])
  | [], e, ps, a, b, c, d, f, _, _ => ⟨_, a, b, c, d, f, by simp [runL, loop_nil]; rfl⟩
  | k :: ks, e, ps, a, b, c, d, f, h, hl => by
    have hk := h k List.mem_cons_self
    have hw : ws[k]? = some ws[k] := by simp [hk]
    generalize ws[k] = w at hw
    obtain ⟨e', a', b', c', d', f', q⟩ := run_loop ws o ks ((if e > w.com then e else w.com) + w.len) (ps ++ [(k, (if e > w.com then e else w.com), (if e > w.com then e else w.com) + w.len)]) (some (.im (.int k))) (some (.im (.int w.len))) (some (.im (.int w.com))) (some (.im (costI w.cost))) (some (.im (.int (if e > w.com then e else w.com)))) (fun k hk => h k (List.mem_cons_of_mem _ hk)) (by simp at hl ⊢; omega)
    refine ⟨e', a', b', c', d', f', ?_⟩
    have hp : fitsL ps.length := fitsL_of (by simp at hl; omega)
    have at1 : atI ((ws.map workI).map D.im) (k : Int) = some (.im (workI w)) := at_k rfl (by simp [hw])
    rw [show runL ws (k :: ks) e = (k, (if e > w.com then e else w.com), (if e > w.com then e else w.com) + w.len) :: runL ws ks ((if e > w.com then e else w.com) + w.len) by rw [runL, hw]]
    rw [List.append_assoc] at q
    rw [List.singleton_append] at q
    rw [<- q, List.map_cons]
    refine loop_cons (ls1 := [some (.im (worksI ws)), some o, some (.mu 0), some (.im (.int e)), some (.im (.int k)), b, c, d, f]) rfl ?_ (gok_nil _)
    simp only [runBody, ev_seq, ev_asg, ev_op, ev_var, List.getElem?_cons_zero, List.getElem?_cons_succ, Option.bind_some, ev_ix, sv_tup, at1, Option.map_some]
    simp [workI, hp, pieceI]
theorem run_eq (ws : List Wk) (ks : List Nat) (h : ∀ k ∈ ks, k < ws.length) (hl : ks.length <= 1000) : ∃ g, F_run [.im (worksI ws), .im (natsI ks)] [] = some (.im (.tup ((runL ws ks 0).map pieceI)), g) := by
  obtain ⟨e', a', b', c', d', f', q⟩ := run_loop ws (.im (natsI ks)) ks 0 [] none none none none none h (by simpa using hl)
  have tt : ∀ ps : List (Nat × Int × Int), mkTup (ps.map fun p => D.im (pieceI p)) = .im (.tup (ps.map pieceI)) := fun ps => by
    have : (ps.map fun p => D.im (pieceI p)) = (ps.map pieceI).map D.im := by rw [List.map_map]; rfl
    rw [this]; exact mkTup_im _
  have kk : (ks.map fun k : Nat => I.int k).map D.im = ks.map fun k : Nat => D.im (.int k) := by rw [List.map_map]; rfl
  simp only [List.map_nil, List.nil_append] at q
  refine ⟨[.lst ((runL ws ks 0).map fun p => .im (pieceI p))], ?_⟩
  simp only [F_run, mkF, m_run, ev_seq, ev_asg, ev_new, ev_lst, ev_nil, ev_c, ev_for, ev_itT, ev_var, List.map_cons, List.map_nil, List.length_cons, List.length_nil, List.cons_append, List.nil_append, List.replicate, Nat.reduceAdd, Nat.reduceSub, if_true, Option.bind_some, fits_0, ev_name, Option.map_some, List.set_cons_succ, List.set_cons_zero, List.getElem?_cons_zero, List.getElem?_cons_succ, tv_tup, kk]
  rw [q]
  simp [kTuple, tt]
def endsL (es : List Int) : List (Nat × Int × Int) -> List Int
  | [] => es
  | p :: r => endsL (es.set p.1 p.2.2) r
theorem endsL_len (ps : List (Nat × Int × Int)) : ∀ es, (endsL es ps).length = es.length := by
  induction ps with
  | nil => intro es; rfl
  | cons p r ih => intro es; rw [endsL, ih]; simp
theorem ends_loop (w o : D) : ∀ (ps : List (Nat × Int × Int)) (es : List Int) (a b c : Option D), (∀ p ∈ ps, p.1 < es.length) -> ∃ a' b' c', mLoop (nTup 3 (nCons (nName 3) (nCons (nName 4) (nCons (nName 5) nNil)))) (mLPut (mVar 2) (mVar 3) (mVar 5)) [] (ps.map fun p => .im (pieceI p))
      [some w, some o, some (.mu 0), a, b, c] [.lst (es.map fun i => .im (.int i))] = some (.nx [some w, some o, some (.mu 0), a', b', c'], [.lst ((endsL es ps).map fun i => .im (.int i))])
  | [], es, a, b, c, _ => ⟨a, b, c, loop_nil⟩
  | (k, x, y) :: ps, es, a, b, c, h => by
    obtain ⟨a', b', c', q⟩ := ends_loop w o ps (es.set k y) (some (.im (.int k))) (some (.im (.int x))) (some (.im (.int y))) (fun p hp => by simpa using h p (List.mem_cons_of_mem _ hp))
    refine ⟨a', b', c', ?_⟩
    have hk : k < es.length := h _ List.mem_cons_self
    have ix : ixN es.length (k : Int) = some k := by unfold ixN; rw [if_pos (by omega), if_pos (by omega)]; simp
    rw [show endsL es ((k, x, y) :: ps) = endsL (es.set k y) ps from rfl, <- q, List.map_cons]
    refine loop_cons (ls1 := [some w, some o, some (.mu 0), some (.im (.int k)), some (.im (.int x)), some (.im (.int y))]) (by simp [pieceI]) ?_ (gok_nil _)
    simp [ix]
theorem ends_of_eq (ws : List Wk) (ps : List (Nat × Int × Int)) (h : ∀ p ∈ ps, p.1 < ws.length) (hl : ws.length <= 1000) : ∃ g, F_ends_of [.im (worksI ws), .im (.tup (ps.map pieceI))] [] = some (.im (intsI (endsL (List.replicate ws.length 0) ps)), g) := by
  obtain ⟨a', b', c', q⟩ := ends_loop (.im (worksI ws)) (.im (.tup (ps.map pieceI))) ps (List.replicate ws.length 0) none none none (fun p hp => by simpa using h p hp)
  have hz : fits ws.length := fits_of (by omega)
  have hc := comp_all (hd := []) (n := nName 0) (m := mC (.int 0)) (gok_nil []) (fun w : Wk => D.im (workI w)) (fun _ => .im (.int 0)) (xs := ws) (ls := [none]) (fun ls => ls.length = 1) rfl fun w hw ls hls => by
    match ls, hls with
    | [a], _ => exact ⟨[some (.im (workI w))], rfl, rfl, rfl⟩
  have hr := map_zero ws
  have w1 : (ws.map workI).map D.im = ws.map fun w => D.im (workI w) := by rw [List.map_map]; rfl
  have p1 : (ps.map pieceI).map D.im = ps.map fun p => D.im (pieceI p) := by rw [List.map_map]; rfl
  rw [hr] at hc
  refine ⟨[.lst ((endsL (List.replicate ws.length 0) ps).map fun i => .im (.int i))], ?_⟩
  simp only [F_ends_of, mkF, m_ends_of, ev_seq, ev_asg, ev_new, ev_comp, ev_itT, ev_var, ev_for, List.map_cons, List.map_nil, List.length_cons, List.length_nil, List.cons_append, List.nil_append, List.replicate, Nat.reduceAdd, Nat.reduceSub, if_true, List.getElem?_cons_zero, List.getElem?_cons_succ, Option.bind_some, tv_tup, Option.map_some, w1, p1, List.length_map, hz, captD, List.append_nil, hc, ev_name, List.set_cons_succ, List.set_cons_zero]
  rw [q]
  simp [kTuple, mkTup_ints]
end Bd
namespace L2
open PySem PySem.Spec PyProof.Rows
structure OkP (w dp : Nat) (d : PyData) : Prop where
  sh : d.showable = true
  lay : d.canLay0 = true
  it : d.intsShort 13 = true
  dp : d.depth <= dp
  wt : d.weight <= w
structure OkPs (w dp n : Nat) (ds : List PyData) : Prop where
  sh : PyData.showableAll ds = true
  lay : PyData.canLayAll0 ds = true
  it : PyData.intsShortAll 13 ds = true
  dp : PyData.depthAll ds <= dp
  wt : PyData.weightAll ds <= n * (w + 1)
def sm (i : Int) : Prop := -1000000000 <= i /\ i <= 1000000000
theorem OkP.int {i : Int} (h : sm i) : OkP 40 0 (.int i) := by
  have h1 : i.natAbs < 10 ^ 10 := by obtain ⟨a, b⟩ := h; omega
  have h0 : i.natAbs < 2 ^ 38 := by obtain ⟨a, b⟩ := h; omega
  have lg : i.natAbs.log2 < 38 := by
    by_cases z : i.natAbs = 0
    · rw [z]; decide
    · exact (Nat.log2_lt z).mpr h0
  refine ⟨?_, by simp [PyData.canLay0], ?_, by simp [PyData.depth], ?_⟩
  · simp only [PyData.showable]; exact decide_eq_true (by omega)
  · simp only [PyData.intsShort, PyData.shown]
    refine decide_eq_true ?_
    have h2 := int_text_length_le10 (a := i) (k := 10) (by decide) h1
    rw [PySem.ofString_length]
    omega
  · simp only [PyData.weight]
    split <;> omega
theorem OkP.mono {w w' dp dp' : Nat} {d : PyData} (h : OkP w dp d) (a : w <= w') (b : dp <= dp') : OkP w' dp' d := ⟨h.sh, h.lay, h.it, Nat.le_trans h.dp b, Nat.le_trans h.wt a⟩
theorem OkPs.nil {w dp : Nat} : OkPs w dp 0 [] := ⟨by simp [PyData.showableAll], by simp [PyData.canLayAll0], by simp [PyData.intsShortAll], by simp [PyData.depthAll], by simp [PyData.weightAll]⟩
theorem OkPs.cons {w dp n : Nat} {d : PyData} {ds : List PyData} (h : OkP w dp d) (t : OkPs w dp n ds) : OkPs w dp (n + 1) (d :: ds) := by
  refine ⟨by simp [PyData.showableAll, h.sh, t.sh], by simp [PyData.canLayAll0, h.lay, t.lay], by simp [PyData.intsShortAll, h.it, t.it], ?_, ?_⟩
  · simp only [PyData.depthAll]; exact Nat.max_le.mpr ⟨h.dp, t.dp⟩
  · simp only [PyData.weightAll]
    have := h.wt; have := t.wt
    rw [Nat.add_mul]; omega
theorem OkPs.tup {w dp n : Nat} {ds : List PyData} (t : OkPs w dp n ds) : OkP (n * (w + 1)) (dp + 1) (.tuple ds) := by
  refine ⟨?_, ?_, ?_, ?_, ?_⟩
  · rw [PyData.showable]; exact t.sh
  · rw [PyData.canLay0]; exact t.lay
  · rw [PyData.intsShort]; exact t.it
  · rw [PyData.depth]; have := t.dp; omega
  · rw [PyData.weight]; exact t.wt
theorem OkPs.lst {w dp n : Nat} {ds : List PyData} (t : OkPs w dp n ds) : OkP (n * (w + 1)) (dp + 1) (.list ds) := by
  refine ⟨?_, ?_, ?_, ?_, ?_⟩
  · rw [PyData.showable]; exact t.sh
  · rw [PyData.canLay0]; exact t.lay
  · rw [PyData.intsShort]; exact t.it
  · rw [PyData.depth]; have := t.dp; omega
  · rw [PyData.weight]; exact t.wt
theorem OkP.repr {w dp : Nat} {d : PyData} (h : OkP w dp d) (hd : isDisplay d = true) (h1 : dp <= 30) (h2 : w <= 2 ^ 20) : okRepr d := by
  have hl : d.layable0 = true := by
    unfold PyData.layable0
    rw [h.lay, decide_eq_true (show d.depth <= 64 by have := h.dp; omega), decide_eq_true (show d.weight <= 2 ^ 20 by have := h.wt; omega)]
    rfl
  exact ⟨h.sh, PyData.hasDict_of_canLay d h.lay, hd, Nat.le_trans h.dp h1, Nat.le_trans (PyProof.Rows.shown_le13 hl h.it) (by decide)⟩
end L2
namespace Bd
open PySem L2
end Bd
namespace Bd
open PySem L2
theorem cut_ints (ns : List Int) (lo hi : Option Int) : ∃ cs : List Int, cutD (ns.map fun n => .im (.int n)) lo hi = cs.map fun n => .im (.int n) := ⟨(ns.drop _).take _, by unfold cutD; rw [List.map_take, List.map_drop]⟩
end Bd
namespace Bd
open PySem L2
abbrev natD (ks : List Nat) : List D := ks.map fun k : Nat => D.im (.int (k : Int))
theorem ixN_nat {n : Nat} {i : Int} (a : 0 <= i) (b : i < n) : ixN n i = some i.toNat := by unfold ixN; rw [if_pos a, if_pos b]
theorem perm_erase : ∀ {a : List Nat} {k x : Nat}, a[k]? = some x -> (x :: a.eraseIdx k).Perm a
  | [], k, x, h => by simp at h
  | y :: r, 0, x, h => by simp at h; subst h; exact .refl _
  | y :: r, k + 1, x, h => by
    have ih := perm_erase (a := r) (k := k) (x := x) (by simpa using h)
    exact (List.Perm.swap y x _).trans (ih.cons y)
theorem erase_map {α β : Type} (f : α -> β) : ∀ (l : List α) (k : Nat), (l.map f).eraseIdx k = (l.eraseIdx k).map f
  | [], k => rfl
  | y :: r, 0 => rfl
  | y :: r, k + 1 => by simp [erase_map f r k]
end Bd
namespace Bd
open PySem L2
def Along (seq : List Nat) (ps : List (Int × Int)) : Prop := ∀ p ∈ ps, ∃ i j a b : Nat, i < j /\ seq[i]? = some a /\ seq[j]? = some b /\ p = ((a : Int), (b : Int))
end Bd
namespace Bd
open PySem L2
theorem cut_take (xs : List D) (k : Nat) : cutD xs none (some (k : Int)) = xs.take k := by
  unfold cutD
  rw [HT.sIx_none, HT.sIx_nat, Nat.sub_zero, List.drop_zero]
  by_cases h : k <= xs.length
  · rw [Nat.min_eq_left h]
  · rw [Nat.min_eq_right (by omega), List.take_length, List.take_of_length_le (by omega)]
theorem range_natD (n : Nat) : rangeD 0 n = natD (List.range n) := by
  refine List.ext_getElem? fun i => ?_
  by_cases h : i < n
  · rw [rangeD_get h]; simp [h]
  · rw [List.getElem?_eq_none (by simp; omega), List.getElem?_eq_none (by simp; omega)]
theorem Along.pok {seq : List Nat} {n : Nat} (hp : seq.Perm (List.range n)) (hn : n <= 1000) {ps : List (Int × Int)} (h : Along seq ps) : ∀ p ∈ ps, pok p := by
  intro p hp'
  obtain ⟨i, j, a, b, _, ea, eb, rfl⟩ := h p hp'
  have ha : a < n := by simpa using hp.mem_iff.mp (List.mem_of_getElem? ea)
  have hb : b < n := by simpa using hp.mem_iff.mp (List.mem_of_getElem? eb)
  exact ⟨by show -1000000000 <= (a : Int); omega, by show (a : Int) <= 1000000000; omega, by show -1000000000 <= (b : Int); omega, by show (b : Int) <= 1000000000; omega⟩
end Bd
namespace Bd
open PySem L2
abbrev intD (xs : List Int) : List D := xs.map fun x => D.im (.int x)
theorem g1 (hd : Hd) (x y : MO) : (hd ++ [x, y])[hd.length + 1]? = some y := by simp
theorem t1 (hd : Hd) (x y z : MO) : (hd ++ [x, y]).set (hd.length + 1) z = hd ++ [x, z] := by simp
end Bd
namespace Bd
open PySem L2
inductive Rc (ps : List (Int × Int)) : Int -> Int -> Prop
  | one {x y : Int} : (x, y) ∈ ps -> Rc ps x y
  | step {x y z : Int} : Rc ps x y -> (y, z) ∈ ps -> Rc ps x z
theorem nodup_len : ∀ {l m : List Int}, l.Nodup -> (∀ x ∈ l, x ∈ m) -> l.length <= m.length
  | [], m, _, _ => by simp
  | x :: r, m, nd, h => by
    obtain ⟨n1, n2⟩ := List.nodup_cons.mp nd
    have hx := h x List.mem_cons_self
    have := nodup_len (l := r) (m := m.erase x) n2 fun y hy => (List.mem_erase_of_ne (fun e => n1 (by rw [<- e]; exact hy))).mpr (h y (List.mem_cons_of_mem _ hy))
    rw [List.length_erase_of_mem hx] at this
    have := List.length_pos_of_mem hx
    simp only [List.length_cons]
    omega
structure Found (ps : List (Int × Int)) (a : Int) (found fresh : List Int) : Prop where
  nd : found.Nodup
  rc : ∀ x ∈ found, Rc ps a x
  fr : ∀ x ∈ fresh, x = a ∨ x ∈ found
  cl : ∀ x, (x = a ∨ x ∈ found) -> x ∈ fresh ∨ ∀ y, (x, y) ∈ ps -> y ∈ found
theorem Rc.snd {ps : List (Int × Int)} {x y : Int} (h : Rc ps x y) : y ∈ ps.map (·.2) := by
  cases h with
  | one h => exact List.mem_map.mpr ⟨_, h, rfl⟩
  | step _ h => exact List.mem_map.mpr ⟨_, h, rfl⟩
theorem Found.len {ps : List (Int × Int)} {a : Int} {found fresh : List Int} (h : Found ps a found fresh) : found.length <= ps.length := by
  have := nodup_len h.nd fun x hx => (h.rc x hx).snd
  simpa using this
end Bd
namespace L2
open PySem PySem.Spec PyProof.Rows
section
variable {prog : Program} {w : World} {A : Around} {R : Result -> Shared -> Prop} {s : Shared}
end
section
variable {X : Cx}
end
end L2
namespace L2
open PySem PySem.Spec PyProof.Rows
section
variable {K : PySem.W.Frag} {ρ ρ' : List Addr} {H H' : Hp} {hd hd' : Hd}
variable (K : PySem.W.Frag) {X : Cx}
variable {a b : Expr} {ta tb : TE} {ma mb : ME} {pos : Pos}
end
end L2
namespace L2
open PySem PySem.Spec PyProof.Rows
def WP {α : Type} (o : Option (α × Hd)) (Q : α -> Hd -> Prop) : Prop := ∃ z h, o = some (z, h) /\ Q z h
abbrev WS (m : MS) (ls : Ls) (hd : Hd) (Q : Fl -> Hd -> Prop) : Prop := WP (m ls hd) Q
abbrev WE (m : ME) (ls : Ls) (hd : Hd) (Q : D -> Hd -> Prop) : Prop := WP (m ls hd) Q
abbrev WT (m : MT) (ls : Ls) (hd : Hd) (Q : Bool -> Hd -> Prop) : Prop := WP (m ls hd) Q
abbrev WA (m : MA) (ls : Ls) (hd : Hd) (Q : List D -> Hd -> Prop) : Prop := WP (m ls hd) Q
abbrev WO (m : MO1) (ls : Ls) (hd : Hd) (Q : Option Int -> Hd -> Prop) : Prop := WP (m ls hd) Q
abbrev WI (m : MI) (ls : Ls) (hd : Hd) (Q : List D × Gd -> Hd -> Prop) : Prop := WP (m ls hd) Q
abbrev WF (F : List D -> Hd -> Option (D × Hd)) (ds : List D) (hd : Hd) (Q : D -> Hd -> Prop) : Prop := WP (F ds hd) Q
section
variable {α β : Type} {o : Option (α × Hd)} {Q : α -> Hd -> Prop} {R : β -> Hd -> Prop} {ls : Ls} {hd : Hd} {d e : D}
theorem WP.some {z : α} {h : Hd} (q : Q z h) : WP (some (z, h)) Q := ⟨z, h, rfl, q⟩
theorem WP.mono {Q' : α -> Hd -> Prop} (h : WP o Q) (k : ∀ z h, Q z h -> Q' z h) : WP o Q' := let ⟨z, x, e, q⟩ := h; ⟨z, x, e, k z x q⟩
theorem WP.bind {f : α × Hd -> Option (β × Hd)} (h : WP o fun z x => WP (f (z, x)) R) : WP (o.bind f) R := by
  obtain ⟨z, x, e, q⟩ := h
  rw [e]; exact q
theorem WP.eq {z : α} {h : Hd} (e : o = Option.some (z, h)) (q : Q z h) : WP o Q := ⟨z, h, e, q⟩
theorem WP.map {f : α -> β} (h : WP o fun z x => R (f z) x) : WP (o.map fun p => (f p.1, p.2)) R := by
  obtain ⟨z, x, e, q⟩ := h
  rw [e]; exact ⟨_, _, rfl, q⟩
end
section
variable {ls : Ls} {hd : Hd} {a b : MS} {ma mb mc : ME} {ta tb : MT} {m m1 m2 : MA} {n : MG} {ns : MGs} {mi : MI} {d e : D} {i j : Nat} {QS : Fl -> Hd -> Prop} {QE : D -> Hd -> Prop} {QT : Bool -> Hd -> Prop} {QA : List D -> Hd -> Prop} {QO : Option Int -> Hd -> Prop} {QI : List D × Gd -> Hd -> Prop}
def thenS (b : MS) (Q : Fl -> Hd -> Prop) : Fl -> Hd -> Prop
  | .nx l, h => WS b l h Q
  | f, h => Q f h
theorem ws_seq (h : WS a ls hd (thenS b QS)) : WS (mSeq a b) ls hd QS := by
  obtain ⟨f, x, e, q⟩ := h
  show WP (mSeq a b ls hd) QS
  rw [ev_seq, e]
  cases f <;> first | exact q | exact ⟨_, _, rfl, q⟩
theorem thenS_nx {l : Ls} {h : Hd} (q : WS b l h QS) : thenS b QS (.nx l) h := q
theorem thenS_rt {h : Hd} (q : QS (.rt d) h) : thenS b QS (.rt d) h := q
theorem ws_next (h : QS (.nx ls) hd) : WS mNext ls hd QS := ⟨_, _, rfl, h⟩
theorem ws_ret (h : WE ma ls hd fun d x => QS (.rt d) x) : WS (mRet ma) ls hd QS := WP.bind (h.mono fun _ _ q => WP.some q)
theorem ws_set (h : WE ma ls hd fun d x => QS (.nx (ls.set i (some d))) x) : WS (mSet i ma) ls hd QS := by
  obtain ⟨d, x, e, q⟩ := h
  exact ⟨_, _, by simp only [ev_asg, e, Option.bind_some, ev_name, Option.map_some], q⟩
theorem ws_asg (h : WE ma ls hd fun d x => ∃ l, n d ls x = some l /\ QS (.nx l) x) : WS (mAsg ma n) ls hd QS := by
  obtain ⟨d, x, e, l, e2, q⟩ := h
  exact ⟨_, _, by simp only [ev_asg, e, Option.bind_some, e2, Option.map_some], q⟩
theorem ws_drop (h : WE ma ls hd fun _ x => QS (.nx ls) x) : WS (mDrop ma) ls hd QS := WP.bind (h.mono fun _ _ q => WP.some q)
theorem ws_if (h : WT ta ls hd fun c x => if c = true then WS a ls x QS else WS b ls x QS) : WS (mIfS ta a b) ls hd QS := by
  refine WP.bind (h.mono fun c x q => ?_)
  dsimp only
  cases c <;> simpa using q
theorem ws_ifn (h : WT ta ls hd fun c x => (c = true -> WS a ls x QS) /\ (c = false -> WS b ls x QS)) : WS (mIfS ta a b) ls hd QS :=
  ws_if (h.mono fun c x q => by cases c <;> simp_all)
theorem ws_par {ix : List Nat} (h : WA m ls hd fun ds x => ds.length = ix.length /\ QS (.nx ((ix.zip ds).foldl (fun l q => l.set q.1 (some q.2)) ls)) x) : WS (mPar ix m) ls hd QS := by
  obtain ⟨d, x, e, q, q2⟩ := h
  exact ⟨_, _, by simp only [ev_par, e, Option.bind_some, q, if_true], q2⟩
def WL (n : MG) (b : MS) (g : Gd) (ds : List D) (ls : Ls) (hd : Hd) (Q : Fl -> Hd -> Prop) : Prop := WP (mLoop n b g ds ls hd) Q
theorem ws_for (h : WI mi ls hd fun p x => WL n b p.2 p.1 ls x QS) : WS (mFor mi n b) ls hd QS := WP.bind (h.mono fun _ _ q => q)
def turnS (g : Gd) (P : Ls -> Hd -> Prop) (Q : Fl -> Hd -> Prop) : Fl -> Hd -> Prop
  | .nx l, h => GOk h g /\ P l h
  | .ct l, h => GOk h g /\ P l h
  | .bk l, h => Q (.nx l) h
  | .rt d, h => Q (.rt d) h
theorem wl_inv {g : Gd} (P : List D -> Ls -> Hd -> Prop) : ∀ {ds : List D} {ls : Ls} {hd : Hd}, P ds ls hd ->
    (∀ d r ls hd, P (d :: r) ls hd -> ∃ ls1, n d ls hd = some ls1 /\ WS b ls1 hd (turnS g (P r) QS)) -> (∀ ls hd, P [] ls hd -> QS (.nx ls) hd) -> WL n b g ds ls hd QS
  | [], ls, hd, h, _, z => ⟨_, _, by unfold mLoop; rfl, z _ _ h⟩
  | d :: r, ls, hd, h, k, z => by
    obtain ⟨ls1, e1, f, x, e2, q⟩ := k d r ls hd h
    unfold WL
    unfold mLoop
    rw [e1, Option.bind_some, e2, Option.bind_some]
    cases f with
    | nx l => exact (show GOk x g /\ P r l x from q).1 |> fun g1 => by dsimp only; rw [if_pos g1]; exact wl_inv P q.2 k z
    | ct l => exact (show GOk x g /\ P r l x from q).1 |> fun g1 => by dsimp only; rw [if_pos g1]; exact wl_inv P q.2 k z
    | bk l => exact ⟨_, _, rfl, q⟩
    | rt l => exact ⟨_, _, rfl, q⟩
theorem we_var (h : ls[i]? = some (some d)) (q : QE d hd) : WE (mVar i) ls hd QE := ⟨d, hd, by rw [ev_var, h], q⟩
theorem we_c {i : I} (q : QE (.im i) hd) : WE (mC i) ls hd QE := ⟨_, _, rfl, q⟩
theorem we_op {f : D -> D -> Hd -> Option (D × Hd)} (h : WE ma ls hd fun d x => WE mb ls x fun e y => WP (f d e y) QE) : WE (mOp f ma mb) ls hd QE := WP.bind (h.mono fun _ _ q => WP.bind (q.mono fun _ _ q => q))
theorem we_if (h : WT ta ls hd fun c x => if c = true then WE ma ls x QE else WE mb ls x QE) : WE (mIf ta ma mb) ls hd QE := by
  refine WP.bind (h.mono fun c x q => ?_)
  dsimp only
  cases c <;> simpa using q
theorem we_ifn (h : WT ta ls hd fun c x => (c = true -> WE ma ls x QE) /\ (c = false -> WE mb ls x QE)) : WE (mIf ta ma mb) ls hd QE :=
  we_if (h.mono fun c x q => by cases c <;> simp_all)
theorem we_tup (h : WA m ls hd fun ds x => fits ds.length /\ QE (mkTup ds) x) : WE (mTup m) ls hd QE := WP.bind (h.mono fun ds x q => by dsimp only; rw [if_pos q.1]; exact WP.some q.2)
theorem we_new (h : WA m ls hd fun ds x => QE (.mu x.length) (x ++ [.lst ds])) : WE (mNew m) ls hd QE := WP.bind (h.mono fun _ _ q => WP.some q)
theorem we_hid {g : List D -> Option D} (h : WA m ls hd fun ds x => ∃ d, g ds = some d /\ QE d x) : WE (mHid g m) ls hd QE := by
  obtain ⟨ds, x, e, d, e2, q⟩ := h
  exact ⟨d, x, by simp only [ev_hid, e, Option.bind_some, e2, Option.map_some], q⟩
theorem we_ixH (h : WA m ls hd fun ds x => WE ma ls x fun e y => ∃ i d, e = .im (.int i) /\ atI ds i = some d /\ QE d y) : WE (mIxH m ma) ls hd QE := by
  obtain ⟨ds, x, e, d, y, e2, i, z, rfl, e4, q⟩ := h
  exact ⟨z, y, by simp only [ev_ixH, e, Option.bind_some, e2, e4, Option.map_some], q⟩
theorem we_cb {f : List D -> Hd -> Option (D × Hd)} (h : WA m ls hd fun ds x => WP (f ds x) QE) : WE (mCB f m) ls hd QE := WP.bind (h.mono fun _ _ q => q)
theorem we_mt {f : D -> List D -> Hd -> Option (D × Hd)} (h : WE ma ls hd fun d x => (∃ l, lstView x d = some l) /\ WA m ls x fun ds y => WP (f d ds y) QE) : WE (mMt f ma m) ls hd QE := by
  obtain ⟨d, x, e, ⟨l, hl⟩, q⟩ := h
  unfold WE
  rw [ev_mt, e, Option.bind_some]
  dsimp only
  rw [hl]
  exact WP.bind (q.mono fun _ _ q => q)
theorem we_callG {F : List D -> Hd -> Option (D × Hd)} (h : WA m ls hd fun ds x => WF F ds x QE) : WE (mCallG F m) ls hd QE := WP.bind (h.mono fun _ _ q => q)
theorem we_neg (h : WE ma ls hd fun d x => ∃ i, d = .im (.int i) /\ QE (.im (.int (-i))) x) : WE (mNeg ma) ls hd QE := by
  obtain ⟨d, x, e, i, rfl, q⟩ := h
  exact ⟨_, x, by simp only [ev_neg, e, Option.bind_some], q⟩
theorem we_andV (h : WT (mTest ma) ls hd fun c x => if c = true then WE mb ls x QE else QE (.im (.bl false)) x) : WE (mAndV ma mb) ls hd QE := by
  refine WP.bind (h.mono fun c x q => ?_)
  dsimp only
  cases c
  · exact WP.some (by simpa using q)
  · simpa using q
theorem wt_test (h : WE ma ls hd fun d x => ∃ b, d = .im (.bl b) /\ QT b x) : WT (mTest ma) ls hd QT := by
  obtain ⟨d, x, e, b, rfl, q⟩ := h
  exact ⟨b, x, by simp only [ev_test, e, Option.bind_some], q⟩
theorem wt_tru (h : WE ma ls hd fun d x => ∃ b, truD x d = some b /\ QT b x) : WT (mTru ma) ls hd QT := by
  obtain ⟨d, x, e, b, e2, q⟩ := h
  exact ⟨b, x, by simp only [ev_tru, e, Option.bind_some, e2, Option.map_some], q⟩
theorem wt_not (h : WT ta ls hd fun c x => QT (!c) x) : WT (mNot ta) ls hd QT := WP.bind (h.mono fun _ _ q => WP.some q)
theorem wt_and (h : WT ta ls hd fun c x => if c = true then WT tb ls x QT else QT false x) : WT (mAnd ta tb) ls hd QT := by
  refine WP.bind (h.mono fun c x q => ?_)
  dsimp only
  cases c
  · exact WP.some (by simpa using q)
  · simpa using q
theorem wt_or (h : WT ta ls hd fun c x => if c = true then QT true x else WT tb ls x QT) : WT (mOr ta tb) ls hd QT := by
  refine WP.bind (h.mono fun c x q => ?_)
  dsimp only
  cases c
  · simpa using q
  · exact WP.some (by simpa using q)
theorem wt_yes (h : QT true hd) : WT mYes ls hd QT := ⟨_, _, rfl, h⟩
theorem wa_nil (h : QA [] hd) : WA mNil ls hd QA := ⟨_, _, rfl, h⟩
theorem wa_cons (h : WE ma ls hd fun d x => WA m ls x fun ds y => QA (d :: ds) y) : WA (mCons ma m) ls hd QA := WP.bind (h.mono fun _ _ q => WP.bind (q.mono fun _ _ q => WP.some q))
theorem wa_lst (h : WA m ls hd fun ds x => fits ds.length /\ QA ds x) : WA (mLst m) ls hd QA := WP.bind (h.mono fun ds x q => by dsimp only; rw [if_pos q.1]; exact WP.some q.2)
theorem wa_rng1 {k : Int} (e : m ls hd = some ([.im (.int k)], hd)) (hk : rngL1 k) (q : QA (rangeD 0 k.toNat) hd) : WA (mRng m) ls hd QA := ⟨_, _, by simp only [ev_rng, e, Option.bind_some, hk, if_true], q⟩
theorem wa_slL {ml mh : MO1} (h : WE ma ls hd fun d x => WO ml ls x fun l y => WO mh ls y fun u z => ∃ ds, lstView z d = some ds /\ QA (cutD ds l u) z) : WA (mSlL ma ml mh) ls hd QA := by
  obtain ⟨d, x, e, l, y, e2, u, z, e3, ds, e4, q⟩ := h
  exact ⟨_, z, by simp only [ev_slL, e, Option.bind_some, e2, e3, e4], q⟩
theorem wo_no (h : QO none hd) : WO mNoPart ls hd QO := ⟨_, _, rfl, h⟩
theorem wo_part (h : WE ma ls hd fun d x => ∃ i, d = .im (.int i) /\ QO (some i) x) : WO (mPart ma) ls hd QO := by
  obtain ⟨d, x, e, i, rfl, q⟩ := h
  exact ⟨_, x, by simp only [ev_part, e, Option.bind_some], q⟩
theorem wi_R (h : WA m ls hd fun ds x => ∃ k, ds = [.im (.int k)] /\ rng1 k /\ QI (rangeD 0 k.toNat, []) x) : WI (mItR m) ls hd QI := by
  obtain ⟨ds, x, e, k, rfl, c, q⟩ := h
  exact ⟨_, x, by simp only [ev_itR, e, Option.bind_some, c, if_true], q⟩
theorem wi_R2 (h : WA m ls hd fun ds x => ∃ j k, ds = [.im (.int j), .im (.int k)] /\ rng2 j k /\ QI (rangeD j (k - j).toNat, []) x) : WI (mItR2 m) ls hd QI := by
  obtain ⟨ds, x, e, j, k, rfl, c, q⟩ := h
  exact ⟨_, x, by simp only [ev_itR2, e, Option.bind_some, c, if_true], q⟩
theorem wi_T (h : WE ma ls hd fun d x => ∃ ds, tupView d = some ds /\ QI (ds, []) x) : WI (mItT ma) ls hd QI := by
  obtain ⟨d, x, e, ds, e2, q⟩ := h
  exact ⟨_, x, by simp only [ev_itT, e, Option.bind_some, e2, Option.map_some], q⟩
theorem wi_H (h : WA m ls hd fun ds x => QI (ds, []) x) : WI (mItH m) ls hd QI := by
  obtain ⟨ds, x, e, q⟩ := h
  exact ⟨_, x, by simp only [ev_itH, e, Option.map_some], q⟩
theorem wi_L (h : WE ma ls hd fun d x => ∃ k ds, d = .mu k /\ x[k]? = some (.lst ds) /\ QI (ds, [(k, ds)]) x) : WI (mItL ma) ls hd QI := by
  obtain ⟨d, x, e, k, ds, rfl, e2, q⟩ := h
  exact ⟨_, x, by simp only [ev_itL, e, Option.bind_some, e2], q⟩
theorem wa_comp {k : Nat} {ix : List Nat} (h : WI mi ls hd fun p x => fits p.1.length /\ WP (mCompGo n ta ma p.2 p.1 (captD k ix ls) x) QA) : WA (mComp k ix mi n ta ma) ls hd QA := WP.bind (h.mono fun p x q => by dsimp only; rw [if_pos q.1]; exact q.2)
theorem wc_inv {g : Gd} (P : List D -> List D -> Ls -> Hd -> Prop) : ∀ {ds es : List D} {ls : Ls} {hd : Hd}, P ds es ls hd ->
    (∀ d r es ls hd, P (d :: r) es ls hd -> ∃ ls1, n d ls hd = some ls1 /\ WT ta ls1 hd fun c x => if c = true then WE ma ls1 x fun z y => GOk y g /\ P r (es ++ [z]) ls1 y else GOk x g /\ P r es ls1 x) ->
    WP (mCompGo n ta ma g ds ls hd) fun zs x => ∃ ls', P [] (es ++ zs) ls' x
  | [], es, ls, hd, h, k => ⟨_, _, by unfold mCompGo; rfl, ls, by simpa using h⟩
  | d :: r, es, ls, hd, h, k => by
    obtain ⟨ls1, e1, c, x, e2, q⟩ := k d r es ls hd h
    unfold mCompGo
    rw [e1, Option.bind_some, e2, Option.bind_some]
    cases c with
    | true =>
      rw [if_pos rfl] at q ⊢
      obtain ⟨z, y, e3, g3, p3⟩ := q
      obtain ⟨zs, y2, e4, ls', p4⟩ := wc_inv P p3 k
      rw [e3, Option.bind_some]
      dsimp only
      rw [if_pos g3, e4]
      exact ⟨z :: zs, y2, rfl, ls', by simpa using p4⟩
    | false =>
      rw [if_neg Bool.false_ne_true] at q ⊢
      dsimp only
      rw [if_pos q.1]
      exact wc_inv P q.2 k
theorem wp_add {i j : Int} (q : QE (.im (.int (i + j))) hd) : WP (gAddA (.im (.int i)) (.im (.int j)) hd) QE := ⟨_, _, by simp, q⟩
theorem wp_sub {i j : Int} (q : QE (.im (.int (i - j))) hd) : WP (gSubt (.im (.int i)) (.im (.int j)) hd) QE := ⟨_, _, by simp, q⟩
theorem wp_mul {i j : Int} (c : mulOk i j) (q : QE (.im (.int (i * j))) hd) : WP (gMul (.im (.int i)) (.im (.int j)) hd) QE := ⟨_, _, by simp [c], q⟩
theorem wp_mod {i j : Int} (c : modOk j) (q : QE (.im (.int (i % j))) hd) : WP (gMod (.im (.int i)) (.im (.int j)) hd) QE := ⟨_, _, by simp [c], q⟩
theorem wp_fdiv {i j : Int} (c : divOk j) (q : QE (.im (.int (i / j))) hd) : WP (gFdiv (.im (.int i)) (.im (.int j)) hd) QE := ⟨_, _, by simp [c], q⟩
theorem wp_lt {i j : Int} (q : QE (.im (.bl (decide (i < j)))) hd) : WP (gLt (.im (.int i)) (.im (.int j)) hd) QE := ⟨_, _, by simp, q⟩
theorem wp_le {i j : Int} (q : QE (.im (.bl (decide (i <= j)))) hd) : WP (gLe (.im (.int i)) (.im (.int j)) hd) QE := ⟨_, _, by simp, q⟩
theorem wp_gt {i j : Int} (q : QE (.im (.bl (decide (j < i)))) hd) : WP (gGt (.im (.int i)) (.im (.int j)) hd) QE := ⟨_, _, by simp, q⟩
theorem wp_ge {i j : Int} (q : QE (.im (.bl (decide (j <= i)))) hd) : WP (gGe (.im (.int i)) (.im (.int j)) hd) QE := ⟨_, _, by simp, q⟩
theorem wp_eqI {i j : Int} (q : QE (.im (.bl (decide (i = j)))) hd) : WP (gEq (.im (.int i)) (.im (.int j)) hd) QE := ⟨_, _, by simp, q⟩
theorem wp_neI {i j : Int} (q : QE (.im (.bl (!decide (i = j)))) hd) : WP (gNe (.im (.int i)) (.im (.int j)) hd) QE := ⟨_, _, by simp, q⟩
theorem wp_eqX {i j : Str} (q : QE (.im (.bl (decide (i = j)))) hd) : WP (gEq (.im (.str i)) (.im (.str j)) hd) QE := ⟨_, _, by simp, q⟩
theorem wp_neX {i j : Str} (q : QE (.im (.bl (!decide (i = j)))) hd) : WP (gNe (.im (.str i)) (.im (.str j)) hd) QE := ⟨_, _, by simp, q⟩
theorem wp_ix {i : Int} {ds : List D} (e1 : seqView hd d = some ds) (e2 : atI ds i = some e) (q : QE e hd) : WP (gIx d (.im (.int i)) hd) QE := ⟨_, _, by rw [ev_ix, e1, Option.bind_some, e2]; rfl, q⟩
theorem wp_max2 {i j : Int} (q : QE (.im (.int (max i j))) hd) : WP (fMax2 [.im (.int i), .im (.int j)] hd) QE := ⟨_, _, rfl, by have : (if j > i then j else i) = max i j := (by split <;> omega); rw [this]; exact q⟩
theorem wp_min2 {i j : Int} (q : QE (.im (.int (min i j))) hd) : WP (fMin2 [.im (.int i), .im (.int j)] hd) QE := ⟨_, _, rfl, by have : (if j < i then j else i) = min i j := (by split <;> omega); rw [this]; exact q⟩
theorem wp_f1 {tp : Bool} {g : List D -> Option D} {ds : List D} {z : D} (e1 : (if tp then seqView hd d else lstView hd d) = some ds) (e2 : g ds = some z) (q : QE z hd) : WP (f1 tp g [d] hd) QE := ⟨_, _, by rw [ev_f1, e1, Option.bind_some, e2]; rfl, q⟩
theorem wp_app {k : Nat} {x : D} {ds : List D} (e1 : hd[k]? = some (.lst ds)) (c : fitsL ds.length) (q : QE (.im .non) (hd.set k (.lst (ds ++ [x])))) : WP (fAppend (.mu k) [x] hd) QE := ⟨_, _, by rw [ev_app, e1]; simp only [c, if_true], q⟩
theorem ws_lput (h : WE mc ls hd fun p x => WE ma ls x fun q y => WE mb ls y fun r z => ∃ w i j ds, q = .mu w /\ r = .im (.int i) /\ z[w]? = some (.lst ds) /\ ixN ds.length i = some j /\ QS (.nx ls) (z.set w (.lst (ds.set j p)))) : WS (mLPut ma mb mc) ls hd QS := by
  obtain ⟨p, x, e1, q, y, e2, r, z, e3, w, i, j, ds, rfl, rfl, e5, c, qq⟩ := h
  exact ⟨_, _, by simp only [ev_lput, e1, Option.bind_some, e2, e3, e5, c, Option.map_some], qq⟩
theorem wf_mk {k n : Nat} {m : MS} {ds : List D} {Q : D -> Hd -> Prop} (hl : ds.length = k) (h : WS m (ds.map some ++ List.replicate (n - k) none) hd fun f x => match f with
    | .rt d => Q d x
    | .nx _ => Q (.im .non) x
    | _ => False) : WF (mkF k n m) ds hd Q := by
  obtain ⟨f, x, e, q⟩ := h
  unfold WF mkF
  rw [if_pos hl, e]
  cases f with
  | nx l => exact ⟨_, _, rfl, q⟩
  | rt l => exact ⟨_, _, rfl, q⟩
  | bk l => exact q.elim
  | ct l => exact q.elim
theorem we_call0 {F : List D -> Hd -> Option (D × Hd)} (h : WA m ls hd fun ds x => clDs 0 ds = true /\ WF F ds [] fun d _ => ∃ i, d = .im i /\ QE (.im i) x) : WE (mCallW 0 F m) ls hd QE := by
  obtain ⟨ds, x, e, c, d, y, e2, i, rfl, q⟩ := h
  exact ⟨_, _, callW0_im e c e2, q⟩
end
structure Tap (T : Nat -> MO -> MO -> Prop) (P : List D -> Hd -> Option (D × Hd)) : Prop where
  cl : ∀ {k : Nat} {a b : MO}, T k a b -> clO 2 a = true /\ clO 2 b = true
  le : ∀ {j k : Nat} {a b : MO}, T k a b -> j <= k -> T j a b
  pick : ∀ {k : Nat} {a b : MO} {many : Int}, T (k + 1) a b -> 0 < many -> many < 1073741824 -> ∃ r a' b', 0 <= r /\ r < many /\ P [.mu 1, .im (.int many)] [a, b] = some (.im (.int r), [a', b']) /\ T k a' b'
section
variable {T : Nat -> MO -> MO -> Prop} {P : List D -> Hd -> Option (D × Hd)} {a b : MO} {rest : Hd} {ls : Ls} {m : MA} {QE : D -> Hd -> Prop} {n c : Nat}
theorem Tap.draw (t : Tap T P) (hT : T (n + 1) a b) {many : Int} {hd : Hd} (e : m ls hd = some ([.mu 1, .im (.int many)], a :: b :: rest)) (h0 : 0 < many) (h1 : many < 1073741824)
    (k : ∀ r a' b', T n a' b' -> 0 <= r -> r < many -> QE (.im (.int r)) (a' :: b' :: rest)) : WE (mCallW 2 P m) ls hd QE := by
  obtain ⟨r, a', b', p1, p2, e2, hT'⟩ := t.pick hT h0 h1
  refine ⟨_, _, callW_im (w := 2) (ds := [.mu 1, .im (.int many)]) (pre := [a, b]) (pre' := [a', b']) (rest := rest) (g := []) rfl rfl e (by simp) ?_ ?_ (by simpa using e2), k r a' b' hT' p1 p2⟩
  · simp [t.cl hT]
  · simp [t.cl hT']
end
end L2
namespace L2
open PySem PySem.Spec PyProof.Rows
section
variable {K : PySem.W.Frag} {ρ ρ' : List Addr} {H H' : Hp} {hd hd' : Hd}
def trimL (w : Nat) (ls : Ls) : Ls := ls.map fun o => match o with
  | some d => if clD w d = true then some d else none
  | none => none
def trimF (w : Nat) : Fl -> Option Fl
  | .nx ls => some (.nx (trimL w ls))
  | .bk ls => some (.bk (trimL w ls))
  | .ct ls => some (.ct (trimL w ls))
  | .rt d => if clD w d = true then some (.rt d) else none
def mTrim (w : Nat) (m : MS) : MS := fun ls hd => if hd.length <= w then (m ls hd).bind fun p => if (p.2.take w).all (clO w) = true then (trimF w p.1).map fun f => (f, p.2.take w) else none else none
theorem RL.trim {ls : Ls} {σ : St} (h : RL K ρ H ls σ) (w : Nat) : RL K (ρ.take w) H (trimL w ls) σ := by
  refine ⟨by simp [trimL, h.len], fun i d e => ?_⟩
  unfold trimL at e
  rw [List.getElem?_map] at e
  cases q : ls[i]? with
  | none => rw [q] at e; cases e
  | some o =>
    rw [q] at e
    cases o with
    | none => simp at e
    | some z =>
      simp only [Option.map_some, Option.some.injEq] at e
      split at e
      · next c =>
        cases e
        obtain ⟨v, e1, e2⟩ := h.ob i _ q
        exact ⟨v, e1, e2.take w c⟩
      · cases e
theorem Ext.trim (x : Ext ρ H ρ' H') {w : Nat} (h : ρ.length <= w) : Ext ρ H (ρ'.take w) H' := by
  obtain ⟨r, rfl, fr⟩ := x.pre
  refine ⟨⟨r.take (w - ρ.length), ?_, fun b hb => fr b (List.mem_of_mem_take hb)⟩, x.keep⟩
  rw [List.take_append, List.take_of_length_le h]
theorem rs_trim {t : TS} {m : MS} (w : Nat) (h : RS K t m) : RS K t (mTrim w m) := by
  intro ρ σ H hd ls E f hd' hR hL hm hQ
  unfold mTrim at hm
  split at hm
  · next hw =>
    obtain ⟨⟨f1, h1⟩, e1, hm⟩ := Option.bind_eq_some_iff.mp hm
    dsimp only at hm
    split at hm
    · next c =>
      obtain ⟨f2, e2, e3⟩ := Option.map_eq_some_iff.mp hm
      cases e3
      refine h ρ σ H hd ls E f1 h1 hR hL e1 fun ρ1 H1 x1 R1 => ?_
      have q := hQ (ρ1.take w) H1 (x1.trim (by rw [hR.len]; exact hw)) (R1.take w c)
      cases f1 with
      | nx l => simp only [trimF, Option.some.injEq] at e2; subst e2; exact fun σ' L => q σ' (L.trim w)
      | bk l => simp only [trimF, Option.some.injEq] at e2; subst e2; exact fun σ' L => q σ' (L.trim w)
      | ct l => simp only [trimF, Option.some.injEq] at e2; subst e2; exact fun σ' L => q σ' (L.trim w)
      | rt d =>
        simp only [trimF] at e2
        split at e2
        · next c2 => cases e2; exact fun v r => q v (r.take w c2)
        · cases e2
    · cases hm
  · cases hm
theorem ws_trim {w : Nat} {m : MS} {ls : Ls} {Q : Fl -> Hd -> Prop} (hw : hd.length <= w) (h : WS m ls hd fun f x => (x.take w).all (clO w) = true /\ ∃ f', trimF w f = some f' /\ Q f' (x.take w)) : WS (mTrim w m) ls hd Q := by
  obtain ⟨f, x, e, c, f', e2, q⟩ := h
  exact ⟨f', x.take w, by unfold mTrim; rw [if_pos hw, e, Option.bind_some]; dsimp only; rw [if_pos c, e2]; rfl, q⟩
def mTrimD (m : MS) : MS := fun ls hd => mTrim hd.length m ls hd
theorem rs_trimD {t : TS} {m : MS} (h : RS K t m) : RS K t (mTrimD m) := fun ρ σ H hd ls E f hd' hR hL hm hQ => rs_trim hd.length h ρ σ H hd ls E f hd' hR hL hm hQ
theorem qss_trimD (K : PySem.W.Frag) {X : Cx} {st : List Stmt} {t : TS} {m : MS} (h : QSs K X st t m) : QSs K X st t (mTrimD m) := ⟨h.p, rs_trimD h.r⟩
theorem ws_trimD {m : MS} {ls : Ls} {Q : Fl -> Hd -> Prop} (h : WS m ls hd fun f x => (x.take hd.length).all (clO hd.length) = true /\ ∃ f', trimF hd.length f = some f' /\ Q f' (x.take hd.length)) : WS (mTrimD m) ls hd Q := ws_trim (Nat.le_refl _) h
def mDNew : ME := fun _ hd => some (.mu hd.length, hd ++ [.dic []])
theorem we_dnew {ls : Ls} {Q : D -> Hd -> Prop} (q : Q (.mu hd.length) (hd ++ [.dic []])) : WE mDNew ls hd Q := ⟨_, _, rfl, q⟩
end
mutual
theorem clD_mono {v w : Nat} (h : v <= w) : ∀ {d : D}, clD v d = true -> clD w d = true
  | .im i, _ => by simp
  | .mu n, c => by simp at c ⊢; omega
  | .tm ds, c => by rw [clD] at c ⊢; exact clDs_mono h c
  | .ro ns, _ => by rw [clD]
theorem clDs_mono {v w : Nat} (h : v <= w) : ∀ {ds : List D}, clDs v ds = true -> clDs w ds = true
  | [], _ => by simp
  | d :: ds, c => by
    simp only [clDs_cons, Bool.and_eq_true] at c ⊢
    exact ⟨clD_mono h c.1, clDs_mono h c.2⟩
end
theorem clKs_mono {v w : Nat} (h : v <= w) : ∀ {ds : List (Key × D)}, clKs v ds = true -> clKs w ds = true
  | [], _ => by simp [clKs]
  | d :: ds, c => by
    simp only [clKs, Bool.and_eq_true] at c ⊢
    exact ⟨clD_mono h c.1, clKs_mono h c.2⟩
theorem clO_mono {v w : Nat} (h : v <= w) {o : MO} (c : clO v o = true) : clO w o = true := by
  cases o with
  | lst ds => exact clDs_mono h c
  | dic ds => exact clKs_mono h c
section
variable {T : Nat -> MO -> MO -> Prop} {P : List D -> Hd -> Option (D × Hd)} {a b : MO} {rest : Hd} {ls : Ls} {m : MA} {QE : D -> Hd -> Prop}
theorem Tap.callX (t : Tap T P) {n c : Nat} (hT : T (n + c) a b) (ex : Hd) {w : Nat} {F : List D -> Hd -> Option (D × Hd)} {as : List D} {hd : Hd} {R : I -> Prop} (e : m ls hd = some (.mu 1 :: as, a :: b :: (ex ++ rest))) (hw : w = ex.length + 2) (ha : clDs w as = true) (hx : ex.all (clO w) = true)
    (hF : ∀ a b, T (n + c) a b -> WF F (.mu 1 :: as) (a :: b :: ex) fun d x => ∃ i a' b' g, d = .im i /\ R i /\ T n a' b' /\ x = a' :: b' :: (ex ++ g))
    (k : ∀ i a' b', T n a' b' -> R i -> QE (.im i) (a' :: b' :: (ex ++ rest))) : WE (mCallW w F m) ls hd QE := by
  subst hw
  have hcl : ∀ o, clO 2 o = true -> clO (ex.length + 2) o = true := fun o h => clO_mono (by omega) h
  obtain ⟨d, x, e2, i, a', b', g, rfl, hR, hT', rfl⟩ := hF a b hT
  refine ⟨_, _, callW_im (w := ex.length + 2) (ds := .mu 1 :: as) (pre := a :: b :: ex) (pre' := a' :: b' :: ex) (rest := rest) (g := g) rfl rfl e (by simp [ha]) ?_ ?_ e2, k i a' b' hT' hR⟩
  · simp [hcl _ (t.cl hT).1, hcl _ (t.cl hT).2]; simpa using hx
  · simp [hcl _ (t.cl hT').1, hcl _ (t.cl hT').2]; simpa using hx
theorem Tap.call (t : Tap T P) {n c : Nat} (hT : T (n + c) a b) {F : List D -> Hd -> Option (D × Hd)} {as : List D} {hd : Hd} {R : I -> Prop} (e : m ls hd = some (.mu 1 :: as, a :: b :: rest)) (ha : clDs 2 as = true)
    (hF : ∀ a b, T (n + c) a b -> WF F (.mu 1 :: as) [a, b] fun d x => ∃ i a' b' g, d = .im i /\ R i /\ T n a' b' /\ x = a' :: b' :: g)
    (k : ∀ i a' b', T n a' b' -> R i -> QE (.im i) (a' :: b' :: rest)) : WE (mCallW 2 F m) ls hd QE :=
  t.callX hT [] (w := 2) e rfl ha rfl hF k
end
end L2
namespace L2
open PySem PySem.Spec PyProof.Rows
section
variable {ls : Ls} {hd : Hd} {b : MS} {c : MT} {Q : Fl -> Hd -> Prop} {QE : D -> Hd -> Prop}
def turnW (P : Ls -> Hd -> Prop) (Q : Fl -> Hd -> Prop) : Fl -> Hd -> Prop
  | .nx l, h => P l h
  | .ct l, h => P l h
  | .bk l, h => Q (.nx l) h
  | .rt d, h => Q (.rt d) h
theorem ws_while (P : Nat -> Ls -> Hd -> Prop) {n : Nat} (h : P n ls hd)
    (k : ∀ n ls hd, P n ls hd -> WT c ls hd fun t x => if t = true then WS b ls x (turnW (fun l y => ∃ m, m < n /\ P m l y) Q) else Q (.nx ls) x) : WS (mWhile c b) ls hd Q := by
  have go : ∀ n ls hd, P n ls hd -> ∃ j r, whileN c b j ls hd = some r /\ Q r.1 r.2 := by
    intro n
    induction n using Nat.strongRecOn with
    | ind n ih =>
      intro ls hd h
      obtain ⟨t, x, e1, q⟩ := k n ls hd h
      cases t with
      | false =>
        rw [if_neg Bool.false_ne_true] at q
        exact ⟨1, (.nx ls, x), by unfold whileN; rw [e1]; rfl, q⟩
      | true =>
        rw [if_pos rfl] at q
        obtain ⟨f, y, e2, q⟩ := q
        cases f with
        | nx l =>
          obtain ⟨m, hm, p⟩ := q
          obtain ⟨j, r, e3, q3⟩ := ih m hm l y p
          exact ⟨j + 1, r, by unfold whileN; rw [e1, Option.bind_some, if_pos rfl, e2]; exact e3, q3⟩
        | ct l =>
          obtain ⟨m, hm, p⟩ := q
          obtain ⟨j, r, e3, q3⟩ := ih m hm l y p
          exact ⟨j + 1, r, by unfold whileN; rw [e1, Option.bind_some, if_pos rfl, e2]; exact e3, q3⟩
        | bk l => exact ⟨1, (.nx l, y), by unfold whileN; rw [e1, Option.bind_some, if_pos rfl, e2]; rfl, q⟩
        | rt d => exact ⟨1, (.rt d, y), by unfold whileN; rw [e1, Option.bind_some, if_pos rfl, e2]; rfl, q⟩
  obtain ⟨j, ⟨f, x⟩, e, q⟩ := go n ls hd h
  exact ⟨f, x, mWhile_eq e, q⟩
theorem wp_popAt {k j : Nat} {i : Int} {ds : List D} {z : D} (e1 : hd[k]? = some (.lst ds)) (hr : rng1 i) (e2 : ixN ds.length i = some j) (e3 : ds[j]? = some z) (q : QE z (hd.set k (.lst (ds.eraseIdx j)))) : WP (fPopAt (.mu k) [.im (.int i)] hd) QE := ⟨_, _, by rw [ev_popAt, e1]; simp [hr, e2, e3], q⟩
end
end L2
namespace L2
open PySem PySem.Spec PyProof.Rows
def DicI (kvs : List (Key × D)) (g : Nat -> Option Int) : Prop := ∀ k : Nat, valD kvs (.inl (k : Int)) = (g k).map fun v => .im (.int v)
theorem DicI.nil : DicI [] fun _ => none := fun k => rfl
section
variable {ls : Ls} {hd : Hd} {QE : D -> Hd -> Prop} {QI : List D × Gd -> Hd -> Prop} {ma : ME} {n : MG} {ta : MT} {mi : MI} {m : MA}
theorem wc_to {g : Gd} {QA : List D -> Hd -> Prop} (P : List D -> List D -> Ls -> Hd -> Prop) {ds : List D} {ls : Ls} {hd : Hd} (h : P ds [] ls hd)
    (k : ∀ d r es ls hd, P (d :: r) es ls hd -> ∃ ls1, n d ls hd = some ls1 /\ WT ta ls1 hd fun c x => if c = true then WE ma ls1 x fun z y => GOk y g /\ P r (es ++ [z]) ls1 y else GOk x g /\ P r es ls1 x)
    (z : ∀ es ls hd, P [] es ls hd -> QA es hd) : WP (mCompGo n ta ma g ds ls hd) QA :=
  (wc_inv P h k).mono fun zs x ⟨ls', q⟩ => z zs ls' x (by simpa using q)
theorem wc_map {α : Type} {g : Gd} {QA : List D -> Hd -> Prop} (inj : α -> D) (f : α -> Option D) (L : D -> Ls -> Prop) (l0 : Ls) {xs : List α} {hd : Hd} (hg : GOk hd g)
    (k : ∀ x ∈ xs, ∀ ls, ls = l0 ∨ (∃ d, L d ls) -> ∃ ls1, n (inj x) ls hd = some ls1 /\ L (inj x) ls1 /\ WT ta ls1 hd fun c y => y = hd /\ if c = true then ∃ z, f x = some z /\ WE ma ls1 hd fun e y => y = hd /\ e = z else f x = none)
    (q : QA (xs.filterMap f) hd) : WP (mCompGo n ta ma g (xs.map inj) l0 hd) QA := by
  have go : ∀ (xs' : List α) (ls : Ls), (∀ x ∈ xs', x ∈ xs) -> (ls = l0 ∨ ∃ d, L d ls) -> mCompGo n ta ma g (xs'.map inj) ls hd = some (xs'.filterMap f, hd) := by
    intro xs'
    induction xs' with
    | nil => intro ls _ _; unfold mCompGo; rfl
    | cons x r ih =>
      intro ls hs hl
      obtain ⟨ls1, e1, L1, c, y, e2, rfl, q⟩ := k x (hs x List.mem_cons_self) ls hl
      have ih := ih ls1 (fun z hz => hs z (List.mem_cons_of_mem _ hz)) (.inr ⟨_, L1⟩)
      rw [List.map_cons]
      unfold mCompGo
      rw [e1, Option.bind_some, e2, Option.bind_some]
      cases c with
      | true =>
        rw [if_pos rfl] at q
        obtain ⟨z, ez, e, y, e3, rfl, rfl⟩ := q
        rw [if_pos rfl, e3, Option.bind_some]
        dsimp only
        rw [if_pos hg, ih, List.filterMap_cons, ez]
        rfl
      | false =>
        rw [if_neg Bool.false_ne_true] at q
        rw [if_neg Bool.false_ne_true]
        dsimp only
        rw [if_pos hg, ih, List.filterMap_cons, q]
  exact ⟨_, _, go xs l0 (fun _ h => h) (.inl rfl), q⟩
end
end L2
namespace Hds
open PySem L2 Bd
structure IsHead (S : Nat -> Prop) (c l : Nat -> Int) (W : List (Nat × Nat)) (h : Nat -> Int) : Prop where
  lo : ∀ k, S k -> c k <= h k
  up : ∀ p ∈ W, S p.2 -> h p.1 + l p.1 <= h p.2
  eq : ∀ k, S k -> h k = c k ∨ ∃ p ∈ W, p.2 = k /\ h k = h p.1 + l p.1
structure Rk (S : Nat -> Prop) (W : List (Nat × Nat)) (rk : Nat -> Nat) : Prop where
  ins : ∀ p ∈ W, S p.1 /\ S p.2
  lt : ∀ p ∈ W, rk p.1 < rk p.2
theorem IsHead.le {S : Nat -> Prop} {c l : Nat -> Int} {W : List (Nat × Nat)} {rk : Nat -> Nat} (R : Rk S W rk) {h h' : Nat -> Int} (a : IsHead S c l W h) (b : IsHead S c l W h') : ∀ n k, rk k = n -> S k -> h k <= h' k := by
  intro n
  induction n using Nat.strongRecOn with
  | ind n ih =>
    intro k hk hS
    rcases a.eq k hS with e | ⟨p, hp, e1, e2⟩
    · rw [e]; exact b.lo k hS
    · have lt := R.lt p hp
      rw [e1, hk] at lt
      have q := ih (rk p.1) lt p.1 rfl (R.ins p hp).1
      have u := b.up p hp (by rw [e1]; exact hS)
      rw [e1] at u
      omega
theorem IsHead.uniq {S : Nat -> Prop} {c l : Nat -> Int} {W : List (Nat × Nat)} {rk : Nat -> Nat} (R : Rk S W rk) {h h' : Nat -> Int} (a : IsHead S c l W h) (b : IsHead S c l W h') (k : Nat) (hS : S k) : h k = h' k :=
  Int.le_antisymm (a.le R b _ k rfl hS) (b.le R a _ k rfl hS)
theorem IsHead.bound {S : Nat -> Prop} {c l : Nat -> Int} {W : List (Nat × Nat)} {rk : Nat -> Nat} (R : Rk S W rk) {h : Nat -> Int} (a : IsHead S c l W h) {B m : Int} (hc : ∀ k, S k -> c k <= B) (hl : ∀ k, S k -> l k <= m) (hm : 0 <= m) : ∀ n k, rk k = n -> S k -> h k <= B + m * n := by
  intro n
  induction n using Nat.strongRecOn with
  | ind n ih =>
    intro k hk hS
    have hn : 0 <= m * (n : Int) := Int.mul_nonneg hm (by omega)
    rcases a.eq k hS with e | ⟨p, hp, e1, e2⟩
    · rw [e]; have := hc k hS; omega
    · have lt := R.lt p hp
      rw [e1, hk] at lt
      have q := ih (rk p.1) lt p.1 rfl (R.ins p hp).1
      have := hl p.1 (R.ins p hp).1
      have g : m * (rk p.1 : Int) + m <= m * (n : Int) := by
        have : m * ((rk p.1 : Int) + 1) <= m * (n : Int) := Int.mul_le_mul_of_nonneg_left (by omega) hm
        rw [Int.mul_add, Int.mul_one] at this
        exact this
      omega
end Hds
namespace L2
open PySem PySem.Spec PyProof.Rows
section
variable {hd : Hd} {QE : D -> Hd -> Prop} {d : D}
end
end L2
namespace L2
open PySem PySem.Spec PyProof.Rows
mutual
def shD (k : Nat) : D -> D
  | .im i => .im i
  | .mu n => .mu (n + k)
  | .tm ds => .tm (shDs k ds)
  | .ro ns => .ro ns
def shDs (k : Nat) : List D -> List D
  | [] => []
  | d :: ds => shD k d :: shDs k ds
end
def shKs (k : Nat) : List (Key × D) -> List (Key × D)
  | [] => []
  | d :: ds => (d.1, shD k d.2) :: shKs k ds
def shO (k : Nat) : MO -> MO
  | .lst ds => .lst (shDs k ds)
  | .dic kvs => .dic (shKs k kvs)
section
variable {K : PySem.W.Frag} {ρ ρ' : List Addr} {H H' : Hp} {hd hd' : Hd}
mutual
theorem RD.shift (ρ1 : List Addr) : ∀ {d : D} {v : V}, RD K ρ H d v -> RD K (ρ1 ++ ρ) H (shD ρ1.length d) v
  | .im i, v, h => by simp only [RD, shD] at h ⊢; exact h
  | .mu n, v, h => by
    simp only [RD, shD] at h ⊢
    obtain ⟨a, e, q⟩ := h
    exact ⟨a, by rw [List.getElem?_append_right (by omega), Nat.add_sub_cancel]; exact e, q⟩
  | .tm ds, v, h => by
    simp only [RD, shD] at h ⊢
    obtain ⟨a, xs, e, q, z⟩ := h
    exact ⟨a, xs, e, q, RDs.shift ρ1 z⟩
  | .ro ns, v, h => by simp only [RD, shD] at h ⊢; exact h
theorem RDs.shift (ρ1 : List Addr) : ∀ {d : List D} {v : List V}, RDs K ρ H d v -> RDs K (ρ1 ++ ρ) H (shDs ρ1.length d) v
  | [], v, h => by simpa only [RDs, shDs] using h
  | d :: ds, v, h => by
    simp only [RDs, shDs] at h ⊢
    obtain ⟨x, r', e, q, z⟩ := h
    exact ⟨x, r', e, q.shift ρ1, RDs.shift ρ1 z⟩
end
theorem RKs.shift (ρ1 : List Addr) : ∀ {d : List (Key × D)} {v : List (Key × V)}, RKs K ρ H d v -> RKs K (ρ1 ++ ρ) H (shKs ρ1.length d) v
  | [], v, h => by simpa only [RKs, shKs] using h
  | d :: ds, v, h => by
    simp only [RKs, shKs] at h ⊢
    obtain ⟨x, r', e, q1, q, z⟩ := h
    exact ⟨x, r', e, q1, q.shift ρ1, RKs.shift ρ1 z⟩
theorem RC.shift (ρ1 : List Addr) {o : MO} {ho : HO} (h : RC K ρ H o ho) : RC K (ρ1 ++ ρ) H (shO ρ1.length o) ho := by
  cases o with
  | lst ds => obtain ⟨xs, e, q⟩ := h; exact ⟨xs, e, q.shift ρ1⟩
  | dic ds => obtain ⟨xs, e, q⟩ := h; exact ⟨xs, e, q.shift ρ1⟩
theorem RH.join {h1 h2 : Hd} (R1 : RH K ρ H h1) (x : Ext [] H ρ' H') (R2 : RH K ρ' H' h2) : RH K (ρ ++ ρ') H' (h1 ++ h2.map (shO ρ.length)) /\ Ext ρ H (ρ ++ ρ') H' := by
  obtain ⟨r, er, fr⟩ := x.pre
  have er : ρ' = r := by simpa using er
  subst er
  have kp : ∀ b o, H b = some o -> H' b = some o := fun b o e => x.keep b o e (by simp)
  have gr : Grow H H' := ⟨fun b xs e => kp b _ e, fun b o u e => kp b _ e⟩
  refine ⟨⟨by simp [R1.len, R2.len], ?_, fun n o a e1 e2 => ?_⟩, ⟨⟨ρ', rfl, fr⟩, fun b o e _ => kp b o e⟩⟩
  · rw [List.nodup_append]
    refine ⟨R1.nd, R2.nd, fun a ha b hb z => ?_⟩
    subst z
    exact R1.out (fr a hb) ha
  · by_cases hn : n < ρ.length
    · rw [List.getElem?_append_left hn] at e2
      rw [List.getElem?_append_left (by rw [<- R1.len]; exact hn)] at e1
      obtain ⟨ho, q1, q2⟩ := R1.ob n o a e1 e2
      exact ⟨ho, kp a ho q1, q2.mono gr ρ'⟩
    · have hn' : ρ.length <= n := Nat.not_lt.mp hn
      rw [List.getElem?_append_right hn'] at e2
      rw [List.getElem?_append_right (by rw [<- R1.len]; exact hn'), List.getElem?_map, <- R1.len] at e1
      cases q : h2[n - ρ.length]? with
      | none => rw [q] at e1; cases e1
      | some o2 =>
        rw [q] at e1
        cases e1
        obtain ⟨ho, q1, q2⟩ := R2.ob _ o2 a q e2
        exact ⟨ho, q1, q2.shift ρ⟩
end
section
variable {ls : Ls} {hd : Hd} {ma mb : ME} {m ml : MA} {QE : D -> Hd -> Prop} {QA : List D -> Hd -> Prop}
end
end L2
namespace L2
open PySem PySem.Spec PyProof.Rows
section
variable {ls : Ls} {hd : Hd} {ma : ME} {n n2 : MG} {c c2 : MT} {mi mi2 : MI} {QE : D -> Hd -> Prop}
theorem wi2_inv {k : Nat} {g : Gd} {Q : Ls -> Hd -> Prop} (P : List D -> Ls -> Hd -> Prop) : ∀ {ds : List D} {ls : Ls} {hd : Hd}, P ds ls hd ->
    (∀ d r ls hd, P (d :: r) ls hd -> ∃ ls1, n2 d ls hd = some ls1 /\ WT c2 ls1 hd fun t x => if t = true then WE ma ls1 x fun z y => WP (fAppend (.mu k) [z] y) fun _ u => GOk u g /\ P r ls1 u else GOk x g /\ P r ls1 x) ->
    (∀ ls hd, P [] ls hd -> Q ls hd) -> ∃ l h, mIn k n2 c2 ma g ds ls hd = some (l, h) /\ Q l h
  | [], ls, hd, h, _, z => ⟨_, _, by unfold mIn; rfl, z _ _ h⟩
  | d :: r, ls, hd, h, s, z => by
    obtain ⟨ls1, e1, t, x, e2, q⟩ := s d r ls hd h
    unfold mIn
    rw [e1, Option.bind_some, e2, Option.bind_some]
    cases t with
    | true =>
      rw [if_pos rfl] at q ⊢
      obtain ⟨z', y, e3, w, u, e4, g4, p4⟩ := q
      rw [e3, Option.bind_some, e4, Option.bind_some]
      dsimp only
      rw [if_pos g4]
      exact wi2_inv P p4 s z
    | false =>
      rw [if_neg Bool.false_ne_true] at q ⊢
      dsimp only
      rw [if_pos q.1]
      exact wi2_inv P q.2 s z
theorem wo2_inv {k : Nat} {g : Gd} {Q : Hd -> Prop} (P : List D -> Ls -> Hd -> Prop) : ∀ {ds : List D} {ls : Ls} {hd : Hd}, P ds ls hd ->
    (∀ d r ls hd, P (d :: r) ls hd -> ∃ ls1, n d ls hd = some ls1 /\ WT c ls1 hd fun t x => if t = true then WI mi2 ls1 x fun p y => ∃ l h, mIn k n2 c2 ma p.2 p.1 ls1 y = some (l, h) /\ GOk h g /\ P r l h else GOk x g /\ P r ls1 x) ->
    (∀ ls hd, P [] ls hd -> Q hd) -> ∃ h, mOut k n c mi2 n2 c2 ma g ds ls hd = some h /\ Q h
  | [], ls, hd, h, _, z => ⟨_, by unfold mOut; rfl, z _ _ h⟩
  | d :: r, ls, hd, h, s, z => by
    obtain ⟨ls1, e1, t, x, e2, q⟩ := s d r ls hd h
    unfold mOut
    rw [e1, Option.bind_some, e2, Option.bind_some]
    cases t with
    | true =>
      rw [if_pos rfl] at q ⊢
      obtain ⟨p, y, e3, l, h, e4, g4, p4⟩ := q
      rw [e3, Option.bind_some]
      dsimp only
      rw [e4, Option.bind_some]
      dsimp only
      rw [if_pos g4]
      exact wo2_inv P p4 s z
    | false =>
      rw [if_neg Bool.false_ne_true] at q ⊢
      dsimp only
      rw [if_pos q.1]
      exact wo2_inv P q.2 s z
theorem we_comp2 {j : Nat} {ix : List Nat} (h : WI mi ls hd fun p x => ∃ y, mOut x.length n c mi2 n2 c2 ma p.2 p.1 (captD j ix ls) (x ++ [.lst []]) = some y /\ QE (.mu x.length) y) : WE (mComp2 j ix mi n c mi2 n2 c2 ma) ls hd QE := by
  obtain ⟨p, x, e, y, e2, q⟩ := h
  exact ⟨_, _, by rw [ev_comp2, e, Option.bind_some]; dsimp only; rw [e2]; rfl, q⟩
end
abbrev blD (bs : List Bool) : List D := bs.map fun b => D.im (.bl b)
theorem flat_bls (bs : List Bool) : flatDs (blD bs) = some (bs.map V.bl) := by
  induction bs with
  | nil => rfl
  | cons b r ih => simp only [blD, List.map_cons, flatDs, flatI, Option.bind_some] at ih ⊢; rw [ih]; rfl
theorem inV_bls (x : Bool) (bs : List Bool) : inV (.bl x) (bs.map V.bl) = decide (x ∈ bs) := by
  unfold inV
  induction bs with
  | nil => simp
  | cons b r ih =>
    have e : eqV (.bl b) (.bl x) = decide (x = b) := by
      show (b == x) = _
      cases b <;> cases x <;> rfl
    rw [List.map_cons, List.any_cons, ih, e]
    simp only [List.mem_cons, Bool.decide_or]
end L2
namespace Rw
open PySem L2 Bd
def W (E : Nat -> Nat -> Bool) : Nat -> Nat -> Nat -> Prop
  | 0, i, j => E i j = true
  | k + 1, i, j => W E k i j ∨ (W E k i k /\ W E k k j)
def upM (M : Nat -> Nat -> Bool) (k a : Nat) : Nat -> Nat -> Bool := fun i j => if i = a /\ M a k = true then M a j || M k j else M i j
structure Inv7 (ps : List (Int × Int)) (n k a : Nat) (M : Nat -> Nat -> Bool) : Prop where
  sound : ∀ i j, i < n -> j < n -> M i j = true -> Rc ps i j
  done : ∀ i j, i < a -> j < n -> W (fun i j => decide (((i : Int), (j : Int)) ∈ ps)) (k + 1) i j -> M i j = true
  rest : ∀ i j, a <= i -> i < n -> j < n -> W (fun i j => decide (((i : Int), (j : Int)) ∈ ps)) k i j -> M i j = true
theorem _root_.Bd.Rc.trans {ps : List (Int × Int)} {x y z : Int} (a : Rc ps x y) (b : Rc ps y z) : Rc ps x z := by
  induction b with
  | one h => exact .step a h
  | step _ h ih => exact .step ih h
theorem Inv7.next {ps : List (Int × Int)} {n k a : Nat} {M : Nat -> Nat -> Bool} (I : Inv7 ps n k a M) (hk : k < n) (ha : a < n) : Inv7 ps n k (a + 1) (upM M k a) := by
  have old : ∀ i j, i < n -> j < n -> W (fun i j => decide (((i : Int), (j : Int)) ∈ ps)) k i j -> M i j = true := fun i j hi hj w => by
    by_cases h : i < a
    · exact I.done i j h hj (.inl w)
    · exact I.rest i j (by omega) hi hj w
  refine ⟨fun i j hi hj h => ?_, fun i j hi hj w => ?_, fun i j hi hn hj w => ?_⟩
  · unfold upM at h
    split at h
    · next c =>
      obtain ⟨rfl, c⟩ := c
      rcases Bool.or_eq_true_iff.mp h with h | h
      · exact I.sound i j hi hj h
      · exact (I.sound i k hi hk c).trans (I.sound k j hk hj h)
    · exact I.sound i j hi hj h
  · unfold upM
    by_cases e : i = a
    · subst e
      by_cases c : M i k = true
      · rw [if_pos ⟨rfl, c⟩]
        rcases w with w | w
        · rw [old i j ha hj w]; rfl
        · rw [old k j hk hj w.2]; simp
      · rw [if_neg (fun z => c z.2)]
        rcases w with w | w
        · exact old i j ha hj w
        · exact absurd (old i k ha hk w.1) c
    · rw [if_neg (fun z => e z.1)]
      exact I.done i j (by omega) hj w
  · unfold upM
    rw [if_neg (fun z => by omega)]
    exact I.rest i j (by omega) hn hj w
end Rw
namespace Bt
open PySem L2 Bd
def tapeL (t : Tp) : List D := [.mu 0, .im (.int t.nx), .im (.int t.lf), .im (.int t.tn)]
def tl (t : Tp) : Hd := [.lst (t.cells.map fun i => .im (.int i)), .lst (tapeL t)]
@[simp] theorem tl_len (t : Tp) : (tl t).length = 2 := rfl
@[simp] theorem tl_0 (t : Tp) (r : Hd) : (tl t ++ r)[0]? = some (.lst (t.cells.map fun i => .im (.int i))) := rfl
@[simp] theorem tl_1 (t : Tp) (r : Hd) : (tl t ++ r)[1]? = some (.lst (tapeL t)) := rfl
@[simp] theorem tl0 (t : Tp) : (tl t)[0]? = some (.lst (t.cells.map fun i => .im (.int i))) := rfl
@[simp] theorem tl1 (t : Tp) : (tl t)[1]? = some (.lst (tapeL t)) := rfl
@[simp] theorem tln (t : Tp) : (tapeL t).length = 4 := rfl
section
variable (t : Tp) (v : Int)
@[simp] theorem ta_0 : atI (tapeL t) 0 = some (.mu 0) := atI_nat (j := 0) rfl
@[simp] theorem ta_1 : atI (tapeL t) 1 = some (.im (.int t.nx)) := atI_nat (j := 1) rfl
@[simp] theorem ta_2 : atI (tapeL t) 2 = some (.im (.int t.lf)) := atI_nat (j := 2) rfl
@[simp] theorem ta_3 : atI (tapeL t) 3 = some (.im (.int t.tn)) := atI_nat (j := 3) rfl
@[simp] theorem tx_1 : ixN 4 1 = some 1 := rfl
@[simp] theorem tx_2 : ixN 4 2 = some 2 := rfl
@[simp] theorem tx_3 : ixN 4 3 = some 3 := rfl
@[simp] theorem tset_1 : (tapeL t).set 1 (.im (.int v)) = tapeL { t with nx := v } := rfl
@[simp] theorem tset_2 : (tapeL t).set 2 (.im (.int v)) = tapeL { t with lf := v } := rfl
@[simp] theorem tset_3 : (tapeL t).set 3 (.im (.int v)) = tapeL { t with tn := v } := rfl
end
@[simp] theorem tlset (t t' : Tp) (h : t'.cells = t.cells) : (tl t).set 1 (.lst (tapeL t')) = tl t' := by unfold tl; rw [h]; rfl
@[simp high] theorem tl_2 (t : Tp) (x : MO) (r : Hd) : (tl t ++ (x :: r))[2]? = some x := rfl
@[simp high] theorem tl_3 (t : Tp) (x y : MO) (r : Hd) : (tl t ++ (x :: y :: r))[3]? = some y := rfl
@[simp high] theorem tls_2 (t : Tp) (x y : MO) (r : Hd) : (tl t ++ (x :: r)).set 2 y = tl t ++ (y :: r) := rfl
@[simp high] theorem tls_3 (t : Tp) (x y z : MO) (r : Hd) : (tl t ++ (x :: y :: r)).set 3 z = tl t ++ (x :: z :: r) := rfl
@[simp] theorem tl_cl (t : Tp) : (tl t).all (clO 2) = true := by simp [tl, clO, clDs_ints, tapeL, clD, clDs]
structure DrawL (P : List D -> Hd -> Option (D × Hd)) (τ : Tp) (many : Int) (r : Int) (τ' : Tp) : Prop where
  lo : 0 <= r
  hi : r < many
  eq : P [.mu 1, .im (.int many)] (tl τ) = some (.im (.int r), tl τ')
section
variable {P : List D -> Hd -> Option (D × Hd)} {τ τ' : Tp} {many r : Int}
theorem DrawL.gen (h : DrawL P τ many r τ') {ls : Ls} {hd rest : Hd} {m : MA} (e : m ls hd = some ([.mu 1, .im (.int many)], tl τ ++ rest)) : mCallW 2 P m ls hd = some (.im (.int r), tl τ' ++ rest) :=
  callW_im (w := 2) (ds := [.mu 1, .im (.int many)]) (pre := tl τ) (pre' := tl τ') (rest := rest) (g := []) rfl rfl e (by simp) (tl_cl _) (tl_cl _) (by rw [List.append_nil]; exact h.eq)
theorem DrawL.c (h : DrawL P τ many r τ') (ls : Ls) (rest : Hd) (i : Nat) (hi : ls[i]? = some (some (.mu 1))) : mCallW 2 P (mCons (mVar i) (mCons (mC (.int many)) mNil)) ls (tl τ ++ rest) = some (.im (.int r), tl τ' ++ rest) := h.gen (by simp [hi])
theorem DrawL.v (h : DrawL P τ many r τ') (ls : Ls) (rest : Hd) (i j : Nat) (hi : ls[i]? = some (some (.mu 1))) (hj : ls[j]? = some (some (.im (.int many)))) : mCallW 2 P (mCons (mVar i) (mCons (mVar j) mNil)) ls (tl τ ++ rest) = some (.im (.int r), tl τ' ++ rest) := h.gen (by simp [hi, hj])
end
def DrawLI (F : List D -> Hd -> Option (D × Hd)) (τ : Tp) (as : List D) (i : I) (τ' : Tp) : Prop := ∃ g, F (.mu 1 :: as) (tl τ) = some (.im i, tl τ' ++ g)
theorem DrawLI.gen {F : List D -> Hd -> Option (D × Hd)} {τ τ' : Tp} {as : List D} {i : I} (h : DrawLI F τ as i τ') {ls : Ls} {hd rest : Hd} {m : MA} (e : m ls hd = some (.mu 1 :: as, tl τ ++ rest)) (ha : clDs 2 as = true) : mCallW 2 F m ls hd = some (.im i, tl τ' ++ rest) := by
  obtain ⟨g, q⟩ := h
  exact callW_im (w := 2) (ds := .mu 1 :: as) (pre := tl τ) (pre' := tl τ') (rest := rest) (g := g) rfl rfl e (by simp [ha]) (tl_cl _) (tl_cl _) q
end Bt
namespace L2
open PySem PySem.Spec PyProof.Rows
inductive Ty where
  | int | bool | str | tuple | list
  deriving DecidableEq
def Ty.nm : Ty -> String
  | .int => "int" | .bool => "bool" | .str => "str" | .tuple => "tuple" | .list => "list"
def IsT (K : PySem.W.Frag) (T : Ty) (H : Hp) (v : V) (b : Bool) : Prop :=
  (v = .non /\ b = false) ∨ (∃ x, v = .bl x /\ b = decide (T = .int ∨ T = .bool)) ∨ (∃ i, v = .int i /\ b = decide (T = .int)) ∨ (∃ x, v = .str x /\ b = decide (T = .str)) ∨
  (∃ a xs, v = .ref a /\ SqL K H a xs /\ b = decide (T = .list)) ∨ ∃ a xs, v = .ref a /\ SqT K H a xs /\ b = decide (T = .tuple)
section
variable {X : Cx} {pins : List (Addr × Obj)} {σ : St} {H : Hp} {s : Shared} {A : Around} {E : Value -> Shared -> Prop} {Q : Value -> Shared -> Prop}
theorem isT_ok {T : Ty} {v : V} {u : Value} {b : Bool} (I : Inv X pins σ H s) (r : RelV v u) (h : IsT X.K T H v b) (q : ∀ tk, Q (.bool b) { s with toks := tk }) : wpAny (model X.prog X.w) A (call (.builtin "isinstance") [u, .type T.nm]) Q E s := by
  have q0 := q s.toks
  have q1 := q (s.toks + 1)
  rcases h with ⟨rfl, rfl⟩ | ⟨x, rfl, rfl⟩ | ⟨i, rfl, rfl⟩ | ⟨x, rfl, rfl⟩ | ⟨a, xs, rfl, hl, rfl⟩ | ⟨a, xs, rfl, ht, rfl⟩
  · cases (show u = Value.none from r)
    cases T
    · exact IsiPair.NoneType_int q1
    · exact IsiPair.NoneType_bool q1
    · exact IsiPair.NoneType_str q1
    · exact IsiPair.NoneType_tuple q1
    · exact IsiPair.NoneType_list q1
  · cases (show u = Value.bool x from r)
    cases T
    · first | exact IsiPair.bool_int q0 | exact IsiPair.bool_int q1
    · first | exact IsiPair.bool_bool q0 | exact IsiPair.bool_bool q1
    · exact IsiPair.bool_str q1
    · exact IsiPair.bool_tuple q1
    · exact IsiPair.bool_list q1
  · obtain ⟨t, rfl⟩ := (show ∃ t, u = Value.int i t from r)
    cases T
    · exact IsiPair.int_int q0
    · exact IsiPair.int_bool q1
    · exact IsiPair.int_str q1
    · exact IsiPair.int_tuple q1
    · exact IsiPair.int_list q1
  · obtain ⟨t, rfl⟩ := (show ∃ t, u = Value.str x t from r)
    cases T
    · exact IsiPair.str_int q1
    · exact IsiPair.str_bool q1
    · exact IsiPair.str_str q0
    · exact IsiPair.str_tuple q1
    · exact IsiPair.str_list q1
  · cases (show u = Value.ref a from r)
    obtain ⟨its, _, ⟨o, n, e, c, _, _⟩, _⟩ := I.list hl
    cases T
    · exact IsiPair.list_int e c q1
    · exact IsiPair.list_bool e c q1
    · exact IsiPair.list_str e c q1
    · exact IsiPair.list_tuple e c q1
    · exact IsiPair.list_list e c q0
  · cases (show u = Value.ref a from r)
    obtain ⟨its, _, ⟨o, e, c, _⟩, _⟩ := I.tuple ht
    cases T
    · exact IsiPair.tuple_int e c q1
    · exact IsiPair.tuple_bool e c q1
    · exact IsiPair.tuple_str e c q1
    · exact IsiPair.tuple_tuple e c q0
    · exact IsiPair.tuple_list e c q1
end
def tIsi (K : PySem.W.Frag) (T : Ty) (te : TE) : TE := fun σ H Q => te σ H fun v H1 => ∃ b, IsT K T H1 v b /\ Q (.bl b) H1
theorem pe_isi (K : PySem.W.Frag) {X : Cx} (T : Ty) {e : Expr} {te : TE} {x : Str} {p px pos : Pos} (hm : X.mg "isinstance" = none) (hmT : X.mg x = none) (hvT : bootBuiltins x = some (.type T.nm)) (he : PE X e te)
    (hv : bootBuiltins "isinstance" = some (.builtin "isinstance")) (hK : X.K = K) (hg : Gl X "isinstance") (hgT : Gl X x) (hnT : x ≠ "__name__") (hdT : (x == ("__debug__" : Str)) = false)
    (hs : starEach [e, .Name x px] X.env = [(false, eval e X.env), (false, eval (.Name x px) X.env)]) (hs2 : starEach [.Name x px] X.env = [(false, eval (.Name x px) X.env)]) : PE X (.Call (.Name "isinstance" p) [e, .Name x px] [] pos) (tIsi K T te) := by
  subst hK
  intro pins s σ H Q I h
  refine wpAny_Call_Name_kw (ld_blt I hg hm hv ?_)
  have go : wpAny (model X.prog X.w) X.A (spliced (backTo pos (starEach [e, .Name x px] X.env))) (fun vs s₁ => wpAny (model X.prog X.w) X.A (call (.builtin "isinstance") vs) (EP X pins σ Q) X.xe s₁) X.xe s := by
    rw [hs]
    show wpAny _ _ (spliced ((false, eval e X.env) :: backTo pos [(false, eval (.Name x px) X.env)])) _ _ s
    refine Calls.spliced_cons (thn (he pins s σ H _ I h) fun u s1 ⟨v, H1, I1, r1, b, ib, q1⟩ => ?_)
    show wpAny _ _ (spliced ((false, eval (.Name x px) X.env) :: backTo pos [])) _ _ s1
    refine Calls.spliced_cons (ld_blt I1 hgT hmT hvT ?_ hnT hdT)
    refine Calls.spliced_nil ?_
    exact isT_ok I1 r1 ib fun tk => ⟨.bl b, H1, I1.tok _, rfl, q1⟩
  exact PyProof.Rows.callWith_builtin1 go (by rw [hs, hs2]) (by rw [hs2]; rfl)
section
variable {K : PySem.W.Frag} {ρ ρ' : List Addr} {H H' : Hp} {hd hd' : Hd}
def isD (T : Ty) (hd : Hd) : D -> Option Bool
  | .im .non => some false
  | .im (.bl _) => some (decide (T = .int ∨ T = .bool))
  | .im (.int _) => some (decide (T = .int))
  | .im (.str _) => some (decide (T = .str))
  | .im (.tup _) => some (decide (T = .tuple))
  | .tm _ => some (decide (T = .tuple))
  | .ro _ => some (decide (T = .list))
  | .mu n => match hd[n]? with
    | some (.lst _) => some (decide (T = .list))
    | _ => none
theorem isD_ok {T : Ty} {d : D} {v : V} {b : Bool} (hR : RH K ρ H hd) (h : RD K ρ H d v) (e : isD T hd d = some b) : IsT K T H v b := by
  cases d with
  | im i =>
    cases i with
    | non => simp only [RD, RI] at h; subst h; simp only [isD, Option.some.injEq] at e; exact .inl ⟨rfl, e.symm⟩
    | bl c => simp only [RD, RI] at h; subst h; simp only [isD, Option.some.injEq] at e; exact .inr (.inl ⟨c, rfl, e.symm⟩)
    | int c => simp only [RD, RI] at h; subst h; simp only [isD, Option.some.injEq] at e; exact .inr (.inr (.inl ⟨c, rfl, e.symm⟩))
    | str c => simp only [RD, RI] at h; subst h; simp only [isD, Option.some.injEq] at e; exact .inr (.inr (.inr (.inl ⟨c, rfl, e.symm⟩)))
    | tup is =>
      obtain ⟨a, xs, rfl, q, r⟩ := h.tup (ds := is.map .im) rfl
      simp only [isD, Option.some.injEq] at e
      exact .inr (.inr (.inr (.inr (.inr ⟨a, xs, rfl, q, e.symm⟩))))
  | tm ds =>
    obtain ⟨a, xs, rfl, q, r⟩ := h.tup (ds := ds) rfl
    simp only [isD, Option.some.injEq] at e
    exact .inr (.inr (.inr (.inr (.inr ⟨a, xs, rfl, q, e.symm⟩))))
  | ro ns =>
    obtain ⟨a, xs, rfl, q, r⟩ := h.lst hR (hd := hd) (ds := ns.map fun n => .im (.int n)) rfl
    simp only [isD, Option.some.injEq] at e
    exact .inr (.inr (.inr (.inr (.inl ⟨a, xs, rfl, q, e.symm⟩))))
  | mu n =>
    simp only [isD] at e
    split at e
    · next q =>
      cases e
      simp only [RD] at h
      obtain ⟨a, hn, rfl⟩ := h
      obtain ⟨xs, e1, e2⟩ := hR.lst hn q
      exact .inr (.inr (.inr (.inr (.inl ⟨a, xs, rfl, SqL.of e1, rfl⟩))))
    · cases e
def mIsi (T : Ty) (ma : ME) : ME := fun ls hd => (ma ls hd).bind fun p => (isD T p.2 p.1).map fun b => (.im (.bl b), p.2)
theorem re_isi {T : Ty} {te : TE} {me : ME} (h : RE K te me) : RE K (tIsi K T te) (mIsi T me) := by
  intro ρ σ H hd ls Q d hd' hR hL hm hQ
  obtain ⟨⟨d1, h1⟩, e1, hm⟩ := Option.bind_eq_some_iff.mp hm
  obtain ⟨b, e2, e3⟩ := Option.map_eq_some_iff.mp hm
  cases e3
  exact h ρ σ H hd ls _ d1 _ hR hL e1 fun ρ1 H1 v x1 R1 r1 => ⟨b, isD_ok R1 r1 e2, hQ ρ1 H1 _ x1 R1 (by simp [RD, RI])⟩
theorem bt_ty : ∀ T : Ty, bootBuiltins T.nm = some (.type T.nm)
  | .int => by decide +kernel
  | .bool => by decide +kernel
  | .str => by decide +kernel
  | .tuple => by decide +kernel
  | .list => by decide +kernel
theorem qe_isi (K : PySem.W.Frag) {X : Cx} (T : Ty) {e : Expr} {te : TE} {me : ME} {x : Str} {p px pos : Pos} (hm : X.mg "isinstance" = none) (hmT : X.mg x = none) (he : QE K X e te me) (hx : bootBuiltins x = some (.type T.nm) := by first | exact bt_ty .int | exact bt_ty .bool | exact bt_ty .str | exact bt_ty .tuple | exact bt_ty .list) (hK : X.K = K := by rfl) (hg : Gl X "isinstance" := by rfl) (hgT : Gl X x := by rfl)
    (hnT : x ≠ "__name__" := by decide) (hdT : (x == ("__debug__" : Str)) = false := by decide)
    (hs : starEach [e, .Name x px] X.env = [(false, eval e X.env), (false, eval (.Name x px) X.env)] := by rfl) (hs2 : starEach [.Name x px] X.env = [(false, eval (.Name x px) X.env)] := by rfl) : QE K X (.Call (.Name "isinstance" p) [e, .Name x px] [] pos) (tIsi K T te) (mIsi T me) :=
  ⟨pe_isi K T hm hmT hx he.p bt_isinstance hK hg hgT hnT hdT hs hs2, re_isi he.r⟩
theorem RDs.ints : ∀ {ns : List Int} {xs : List V}, RDs K ρ H (ns.map fun x => D.im (.int x)) xs -> xs = ns.map V.int
  | [], xs, h => by simpa only [RDs, List.map_nil] using h
  | n :: ns, xs, h => by
    simp only [List.map_cons, RDs, RD, RI] at h
    obtain ⟨x, r, rfl, rfl, t⟩ := h
    rw [RDs.ints t]; rfl
end
section
variable {ls : Ls} {hd : Hd} {ma mo mi me : ME} {QE : D -> Hd -> Prop} {QS : Fl -> Hd -> Prop}
theorem we_isi {T : Ty} (h : WE ma ls hd fun d x => ∃ b, isD T x d = some b /\ QE (.im (.bl b)) x) : WE (mIsi T ma) ls hd QE := by
  obtain ⟨d, x, e, b, e2, q⟩ := h
  exact ⟨_, _, by simp only [mIsi, e, Option.bind_some, e2, Option.map_some], q⟩
end
end L2
namespace L2
open PySem PySem.Spec PyProof.Rows
section
variable {X : Cx} {a : Expr} {ta : TE}
end
section
variable (K : PySem.W.Frag) {X : Cx} {a : Expr} {ta : TE} {ma : ME} {b : Bool} {j : _} {pos pos' : Pos}
end
end L2
namespace L2
open PySem PySem.Spec PyProof.Rows
structure EAt (h : Heap) (e it l : Addr) (i : Nat) : Prop where
  e : ∃ old, IsEnum h e it i old
  r : h.IsListIter it l i
def Ite (K : PySem.W.Frag) (a : Addr) : It :=
  ⟨fun i H => ∃ xs x, SqL K H a xs /\ xs[i]? = some x,
   fun i H x H' => ∃ p v, H p = none /\ H' = upd H p (.tup [.int (i : Int), v]) /\ x = .ref p /\ ∀ xs, SqL K H a xs -> xs[i]? = some v,
   fun i H => ∃ xs, SqL K H a xs /\ xs.length <= i⟩
theorem turn_enum {P : Program} {w : World} {K : PySem.W.Frag} {elts : List Expr} {kk : Nat} {tpos : Pos} {e it l : Addr} (ne : e ≠ it) : Turn P w K (.Tuple elts kk tpos) (Ite K l) [e, it] e (fun i h => EAt h e it l i) where
  mem := by simp
  obj := fun i h st c hc => by
    obtain ⟨⟨old, he⟩, hr⟩ := st
    simp only [List.mem_cons, List.not_mem_nil, or_false] at hc
    rcases hc with rfl | rfl
    · exact ⟨_, he, fun v z => by cases (show Data.fields _ = Data.cell v from z)⟩
    · obtain ⟨o, q, _, d⟩ := hr; exact ⟨o, q, fun v z => by rw [d] at z; cases z⟩
  keep := fun i h h' st k => by
    obtain ⟨⟨old, he⟩, o, q, r⟩ := st
    exact ⟨⟨old, k e (by simp) _ he⟩, o, k it (by simp) _ q, r⟩
  item := by
    intro X hP hw hK hc i pins s σ H E I hf st hg
    subst hP hw hK
    obtain ⟨xs, x, h1, hx⟩ := hg
    obtain ⟨its, r, pl, hz⟩ := I.list h1
    obtain ⟨u, hu, ru⟩ := r.get hx
    obtain ⟨⟨old, he⟩, hr⟩ := st
    refine wpAny_pyNext_enum_item he hr pl.isList (x := u) (by simpa using hu) ne fun g ho hr' ht hsz kp => ⟨_, rfl, ?_⟩
    refine wpAny_letOwnedTupleGo_enum ho fun g' e' sb => ?_
    have hle : e < s.heap.objs.size := Heap.lt_size he
    have kp2 : ∀ c o, c ∉ [e, it] -> s.heap.get? c = some o -> g'.get? c = some o := fun c o nc q => by
      simp only [List.mem_cons, List.not_mem_nil, or_false, not_or] at nc
      exact sb.extBut _ _ nc.1 (kp c o nc.1 nc.2 q)
    have hT : s.heap.objs.size ≠ e := Nat.ne_of_gt hle
    have hpair : g'.get? s.heap.objs.size = some { cls := .type "tuple", data := .seq #[.int i s.toks, u] } := sb.extBut _ _ hT ht
    have fresh : H s.heap.objs.size = none := I.hok.fresh (Nat.le_refl _)
    have I2 : Inv X pins σ (upd H s.heap.objs.size (.tup [.int (i : Int), x])) { s with heap := g', toks := s.toks + 1 } := I.turnsL (tk := s.toks + 1) (o := .tup [.int (i : Int), x]) kp2 hf (Nat.le_refl _)
      (show ObjOk X.prog X.w _ g' _ (.tup [.int (i : Int), x]) from ⟨by show 2 <= sizeLine; decide, [.int i s.toks, u], .cons ⟨_, rfl⟩ (.cons ru .nil), ⟨_, hpair, rfl, _, rfl⟩⟩)
    refine ⟨.ref s.heap.objs.size, _, I2, rfl, ⟨s.heap.objs.size, x, fresh, rfl, rfl, fun xs' q => by rw [I.list_inj q h1]; exact hx⟩, ⟨⟨u, ?_⟩, ?_⟩, fun c hc => ?_⟩
    · have := e'
      rw [show ((i : Int) + 1) = ((i + 1 : Nat) : Int) by omega] at this
      exact this
    · exact hr'.extBut sb.extBut (Ne.symm ne)
    · have lt : c < s.heap.objs.size := by
        simp only [List.mem_cons, List.not_mem_nil, or_false] at hc
        rcases hc with rfl | rfl
        · exact hle
        · obtain ⟨o, q, _⟩ := hr; exact Heap.lt_size q
      rw [upd_ne (Nat.ne_of_lt lt)]
      exact (hf c hc).1
  done := by
    intro X hP hw hK hc i pins s σ H E I hf st hg
    subst hP hw hK
    obtain ⟨xs, h1, hend⟩ := hg
    obtain ⟨its, r, pl, hz⟩ := I.list h1
    have l1' := r.length
    obtain ⟨⟨old, he⟩, hr⟩ := st
    refine wpAny_pyNext_enum_end (show X.A.handled = none from I.ok.hd hc) he hr pl.isList (by simp; omega) fun g x => ⟨rfl, ?_⟩
    exact I.turns (tk := s.toks) (fun c o nc q => by
      simp only [List.mem_cons, List.not_mem_nil, or_false, not_or] at nc
      exact x c o nc.2 q) hf
  self := fun _ _ _ _ _ st h => by
    obtain ⟨⟨old, he⟩, hr⟩ := st
    exact wpAny_pyIter_enum he h
def iEnum (K : PySem.W.Frag) (ta : TA) : TI := fun σ H R => ta σ H fun vs H1 => ∃ a xs, vs = [.ref a] /\ SqL K H1 a xs /\ R (Ite K a) H1
theorem boot_enumerate : bootBuiltins "enumerate" = some (.type "enumerate") := by decide +kernel
section
variable {X : Cx}
theorem pi_enum (K : PySem.W.Frag) {a : Expr} {ta : TA} {elts : List Expr} {kk : Nat} {tpos p pos : Pos} (hg : Gl X "enumerate") (hm : X.mg "enumerate" = none) (ha : PA X [a] ta) (hK : X.K = K := by rfl) (hs : starEach [a] X.env = [(false, eval a X.env)] := by rfl) :
    PI X (.Tuple elts kk tpos) (.Call (.Name "enumerate" p) [a] [] pos) (iEnum K ta) := by
  subst hK
  intro pins s σ H R I h
  refine Call_ (ld_blt I hg hm boot_enumerate (PyProof.Rows.callWith_type1 (thn (ha pos pins s σ H _ I h) fun us s1 ⟨vs, H1, I1, r1, q1⟩ => ?_) hs rfl))
  obtain ⟨l, xs, e, c, q⟩ := q1
  subst e
  obtain ⟨u, rfl, ru⟩ := r1.one
  cases ru
  obtain ⟨its, r, pl, hz⟩ := I1.list c
  refine call_enumerate_list pl.isList fun g he hr hsz kp => wpAny_pyIter_enum he ?_
  refine ⟨_, _, _, _, H1, rfl, I1.kept (t' := s1.toks) kp, turn_enum (Nat.ne_of_gt (Nat.lt_succ_self _)), ⟨⟨_, he⟩, hr⟩, fun c hc => ?_, q⟩
  simp only [List.mem_cons, List.not_mem_nil, or_false] at hc
  have le : s1.heap.objs.size <= c := by
    rcases hc with rfl | rfl
    · exact Nat.le_add_right _ _
    · exact Nat.le_refl _
  exact I1.fpOk le (I1.hok.fresh le)
end
section
variable {K : PySem.W.Frag}
def mEnum (ma : MI) : MI := fun ls hd => (ma ls hd).map fun p => ((p.1.1.zipIdx.map fun q => mkTup [.im (.int (q.2 : Int)), q.1], p.1.2), p.2)
theorem ri_enum {ta : TE} {ma : MI} (ha : RRw K false ta ma) : RIt K (iEnum K (tCons ta tNil)) (mEnum ma) := by
  intro ρ σ H hd ls Q d g hd' hR hL hm hQ
  obtain ⟨⟨⟨d1, g1⟩, h1⟩, e1, e2⟩ := Option.map_eq_some_iff.mp hm
  cases e2
  refine ha ρ σ H hd ls _ d1 g1 h1 hR hL e1 fun ρ1 H1 a x1 R1 G1 S1 => ?_
  obtain ⟨xs, c1, r1⟩ := S1 ρ1 H1 _ .refl R1 G1
  refine ⟨a, xs, rfl, c1, hQ ρ1 H1 _ x1 R1 G1 ?_⟩
  intro ρ3 H3 hd3 x3 R3 G3 i
  obtain ⟨xs, c1, r1⟩ := S1 ρ3 H3 _ x3 R3 G3
  have l1 := r1.len
  refine ⟨fun hi => ?_, fun hi => ⟨xs, c1, ?_⟩⟩
  · have hi : i < d1.length := by simpa using hi
    have i1 : d1[i]? = some (d1[i]'hi) := List.getElem?_eq_getElem _
    obtain ⟨x, x4, x5⟩ := r1.get i1
    refine ⟨⟨xs, x, c1, x4⟩, fun z H4 hz => ?_⟩
    obtain ⟨p, v, fp, rfl, rfl, hv⟩ := hz
    have ev := hv xs c1; rw [x4] at ev; cases ev
    obtain ⟨R4, x6⟩ := R3.hid (ho := .tup [.int (i : Int), x]) fp
    refine ⟨ρ3, mkTup [.im (.int (i : Int)), d1[i]'hi], x6, rfl, R4, ?_, rd_mkTup (SqT.of upd_same) (.cons (by simp [RD, RI]) (.cons (x5.ext R3 x6) .nil))⟩
    simp [i1]
  · have hi : i = d1.length := by simpa using hi
    omega
theorem qi_enum (K : PySem.W.Frag) {X : Cx} {a : Expr} {ta : TE} {ma : MI} {elts : List Expr} {kk : Nat} {tpos p pos : Pos} (hm : X.mg "enumerate" = none) (ha : QR K false X a ta ma) (hg : Gl X "enumerate" := by rfl) (hK : X.K = K := by rfl) (hs : starEach [a] X.env = [(false, eval a X.env)] := by rfl) :
    QI K X (.Tuple elts kk tpos) (.Call (.Name "enumerate" p) [a] [] pos) (iEnum K (tCons ta tNil)) (mEnum ma) := ⟨pi_enum K hg hm (pa_cons ha.p pa_nil hs) hK hs, ri_enum ha.r⟩
theorem wi_enum {ma : MI} {ls : Ls} {hd : Hd} {QI : List D × Gd -> Hd -> Prop} (h : WI ma ls hd fun p x => QI (p.1.zipIdx.map fun q => mkTup [.im (.int (q.2 : Int)), q.1], p.2) x) : WI (mEnum ma) ls hd QI := by
  obtain ⟨p, x, e, q⟩ := h
  exact ⟨_, _, by simp only [mEnum, e, Option.map_some], q⟩
end
def rInsert : V -> List V -> Hp -> VK -> Prop := fun x vs H Q => ∃ (l : Addr) (xs : List V) (i : Int) (k : Nat) (y : V), x = .ref l /\ vs = [.int i, y] /\ i = (k : Int) /\ H l = some (.lst xs) /\ k <= xs.length /\ xs.length < sizeLine /\ Q .non (upd H l (.lst (xs.take k ++ y :: xs.drop k)))
theorem mt_insert {X : Cx} : MtM X "list.insert" rInsert := by
  intro pins s σ H x vs v us Q I rx rv h
  obtain ⟨l, xs, i, k, y, rfl, rfl, hi, hH, hk, hz, q⟩ := h
  cases rx
  obtain ⟨u, w, rfl, ru, rw'⟩ := vals2 rv
  obtain ⟨t, rfl⟩ := ru
  obtain ⟨z, its, n, r, hl, e⟩ := I.lstM hH
  have h1 : its.toArray.size <= sizeLine := by rw [List.size_toArray, <- hl]; exact z
  have hkl : k <= its.length := by rw [<- hl]; exact hk
  have hf : ¬ (!Builtin.List.listFitsIndex i) = true := by
    have h3 := line63
    have h4 := Nat.lt_of_le_of_lt hk hz
    rw [fitsIndex_both (k := i) (by omega) (by omega)]; decide
  have M := AutoSeq1.list_insert_list_int_val_1 l its.toArray n i t w hf
  have M := M h1
  refine call_meets F.slot_list_insert ⟨_, e, rfl⟩ F.entry_list_insert (F.args_list_insert_3 _ _ _) M ⟨e, ?_⟩
  · refine ⟨.non, _, I.lset (its' := its.take k ++ w :: its.drop k) hH e ?_ ((r.take k).append (.cons rw' (r.drop k))) ?_, rfl, q⟩
    · show ((its.toArray.extract 0 (if i < 0 then (i + (its.toArray.size : Int)).toNat else min i.toNat its.toArray.size)).push w ++ its.toArray.extract (if i < 0 then (i + (its.toArray.size : Int)).toNat else min i.toNat its.toArray.size)) = _
      have e1 : (if i < 0 then (i + (its.toArray.size : Int)).toNat else min i.toNat its.toArray.size) = k := by
        rw [if_neg (by omega), hi, Int.toNat_natCast, List.size_toArray]; omega
      rw [e1]
      apply Array.ext'
      simp [List.extract_eq_drop_take]
      try exact List.take_of_length_le (by simp)
    · rw [List.length_append, List.length_take, List.length_cons, List.length_drop]
      have := Nat.succ_le_of_lt hz
      rw [Nat.min_eq_left hk]
      omega
open Classical in
noncomputable def fInsert : D -> List D -> Hd -> Option (D × Hd)
  | .mu n, [.im (.int i), y], hd => match hd[n]? with
    | some (.lst ds) => if 0 <= i /\ i <= ds.length /\ fitsL ds.length then some (.im .non, hd.set n (.lst (ds.take i.toNat ++ y :: ds.drop i.toNat))) else none
    | _ => none
  | _, _, _ => none
section
variable {K : PySem.W.Frag} {ρ ρ' : List Addr} {H H' : Hp} {hd hd' : Hd}
theorem RDs.takeD : ∀ {ds : List D} {xs : List V} (k : Nat), RDs K ρ H ds xs -> RDs K ρ H (ds.take k) (xs.take k)
  | [], xs, k, h => by simp only [RDs] at h; subst h; simp [RDs]
  | d :: ds, xs, 0, h => by simp [RDs]
  | d :: ds, xs, k + 1, h => by
    simp only [RDs] at h
    obtain ⟨x, r, rfl, h1, h2⟩ := h
    simp only [List.take_succ_cons, RDs]
    exact ⟨x, _, rfl, h1, RDs.takeD k h2⟩
theorem RDs.dropD : ∀ {ds : List D} {xs : List V} (k : Nat), RDs K ρ H ds xs -> RDs K ρ H (ds.drop k) (xs.drop k)
  | [], xs, k, h => by simp only [RDs] at h; subst h; simp [RDs]
  | d :: ds, xs, 0, h => by simpa using h
  | d :: ds, xs, k + 1, h => by
    simp only [RDs] at h
    obtain ⟨x, r, rfl, h1, h2⟩ := h
    simp only [List.drop_succ_cons]
    exact RDs.dropD k h2
theorem rm_insert : RM K rInsert fInsert := by
  intro ρ H hd d v ds vs Q z hd' hR h1 h2 hf hQ
  unfold fInsert at hf
  split at hf
  · next n i y =>
    split at hf
    · next es q =>
      split at hf
      · next c =>
        cases hf
        simp only [RD] at h1
        obtain ⟨a, hn, rfl⟩ := h1
        simp only [RDs, RD, RI] at h2
        obtain ⟨x, r, rfl, rfl, y', r', rfl, hy, rfl⟩ := h2
        obtain ⟨xs, f1, f2⟩ := hR.lst hn q
        have l := f2.len
        obtain ⟨R2, x2⟩ := hR.put hn (o := .lst (es.take i.toNat ++ y :: es.drop i.toNat)) (ho := .lst (xs.take i.toNat ++ y' :: xs.drop i.toNat)) ⟨_, rfl, (RDs.takeD _ f2).app (.cons hy (RDs.dropD _ f2))⟩
        exact ⟨a, xs, i, i.toNat, y', rfl, rfl, by omega, f1, by omega, by rw [l]; exact c.2.2, hQ ρ _ _ x2 R2 (by simp [RD, RI])⟩
      · cases hf
    · cases hf
  · cases hf
end
theorem wp_insert {hd : Hd} {k : Nat} {i : Int} {y : D} {ds : List D} {QE : D -> Hd -> Prop} (e1 : hd[k]? = some (.lst ds)) (c1 : 0 <= i) (c2 : i <= ds.length) (c3 : fitsL ds.length) (q : QE (.im .non) (hd.set k (.lst (ds.take i.toNat ++ y :: ds.drop i.toNat)))) : WP (fInsert (.mu k) [.im (.int i), y] hd) QE := by
  refine ⟨_, _, ?_, q⟩
  simp only [fInsert, e1, c1, c2, c3, and_self, if_true]
end L2
namespace HT
open PySem PySem.Spec PyProof.Rows
section
variable {prog : Program} {w : World} {A : Around} {E : Value -> Shared -> Prop} {s : Shared}
theorem getItem_tuple_whole {t sl : Addr} {items : Array Value} {vl vu : Value} {lo hi : Option Int} {Q : Value -> Shared -> Prop} (ht : IsTup s.heap t items) (hs : s.heap.IsSliceOf sl vl vu .none) (pl : IsPart vl lo) (pu : IsPart vu hi)
    (hw : sIx items.size 0 lo = 0 /\ sIx items.size items.size hi = items.size) (h : Q (.ref t) s) : wpAny (model prog w) A (getItem (.ref t) (.ref sl)) Q E s := by
  obtain ⟨os, hos, hcs, hds⟩ := id hs
  have hTs : s.TypeIs (.ref sl) "slice" := ⟨os, hos, hcs⟩
  unfold getItem
  try with_reducible refine wpAny_holding ?_
  first | refine wpAny_bind (wpAny_pure ?_) | skip
  refine wpAny_bind (wpAny_sequenceKey ht.typeIs (by decide) ?_)
  refine wpAny_bind (wpAny_callSpecial?_slot (name := Str.ofString "__getitem__") ht.typeIs PyProof.Rows.slot_tuple_getitem
    (wpAny_call_entry PyProof.Rows.slot_tuple_getitem ht.typeIs entry_tuple_getitem ?_ (args_tuple_getitem _ _)))
  show wpAny _ _ (Builtin.Tuple.tupleItemsOf (.ref t) >>= _) _ _ s
  refine wpAny_bind (tupleItemsOf_ ht ?_)
  refine wpAny_bind (wpAny_typeOf hTs ?_)
  rw [if_pos (by decide)]
  refine wpAny_bind (sliceApplied_gen hs pl pu ?_)
  have hno : (((sIx items.size 0 lo : Nat) : Int) == 0 && (1 : Int) == 1 && (sIx items.size items.size hi - sIx items.size 0 lo) == items.size) = true := by
    rw [hw.1, hw.2]; simp
  show wpAny _ _ (if (((sIx items.size 0 lo : Nat) : Int) == 0 && (1 : Int) == 1 && (sIx items.size items.size hi - sIx items.size 0 lo) == items.size) = true then _ else _) _ _ s
  rw [if_pos hno]
  refine wpAny_bind ?_
  unfold Builtin.Tuple.tupleIsExact
  refine wpAny_bind (wpAny_typeOf ht.typeIs (wpAny_pure ?_))
  rw [if_pos (by decide)]
  exact wpAny_bind (wpAny_rule (wpAny_pure ⟨_, rfl, wpAny_pure h⟩))
end
end HT
namespace L2
open PySem PySem.Spec PyProof.Rows
section
variable {X : Cx}
def rSlA (K : PySem.W.Frag) : V -> Option Int -> Option Int -> Hp -> VK -> Prop := fun x lo hi H Q => rSlT K x lo hi H Q ∨ ∃ a xs, x = .ref a /\ SqT K H a xs /\ (HT.sIx xs.length 0 lo = 0 /\ HT.sIx xs.length xs.length hi = xs.length) /\ Q (.ref a) H
theorem sl_tupA (K : PySem.W.Frag) (hK : X.K = K := by rfl) : SlR X (rSlA K) := by
  subst hK
  intro pins s σ H x v vl vu lo hi sl Q I rx hs pl pu h
  rcases h with h | ⟨a, xs, rfl, hx, hw, q⟩
  · exact sl_tup pins s σ H x v vl vu lo hi sl Q I rx hs pl pu h
  cases rx
  obtain ⟨its, r, ht, hz⟩ := I.tuple hx
  have hlen : its.toArray.size = xs.length := by rw [List.size_toArray]; exact r.length.symm
  refine ⟨"tuple", _, PyProof.Rows.slot_tuple_getitem.lookup, ht.typeIs, ?_⟩
  exact HT.getItem_tuple_whole ht hs pl pu (by rw [hlen]; exact hw) ⟨.ref a, H, I, rfl, q⟩
end
section
variable {K : PySem.W.Frag} {ρ ρ' : List Addr} {H H' : Hp} {hd hd' : Hd}
def mSlA (m : ME) (ml mh : MO1) : ME := fun ls hd => (m ls hd).bind fun p => (ml ls p.2).bind fun l => (mh ls l.2).bind fun h => (tupView p.1).map fun ds => (mkTup (cutD ds l.1 h.1), h.2)
theorem re_slA {t : TE} {tl th : TO} {m : ME} {ml mh : MO1} (h : RE K t m) (hl : RO1 K tl ml) (hh : RO1 K th mh) : RE K (tSl (rSlA K) t tl th) (mSlA m ml mh) := by
  intro ρ σ H hd ls Q d hd' hR hL hm hQ
  obtain ⟨⟨d1, h1⟩, e1, hm⟩ := Option.bind_eq_some_iff.mp hm
  obtain ⟨⟨d2, h2⟩, e2, hm⟩ := Option.bind_eq_some_iff.mp hm
  obtain ⟨⟨d3, h3⟩, e3, hm⟩ := Option.bind_eq_some_iff.mp hm
  obtain ⟨ds, e4, e5⟩ := Option.map_eq_some_iff.mp hm
  cases e5
  dsimp only at e2 e3 e4
  refine h ρ σ H hd ls _ d1 h1 hR hL e1 fun ρ1 H1 v1 x1 R1 r1 => ?_
  refine hl ρ1 σ H1 h1 ls _ d2 h2 R1 (hL.ext hR x1) e2 fun ρ2 H2 x2 R2 => ?_
  refine hh ρ2 σ H2 h2 ls _ d3 _ R2 (hL.ext hR (x1.trans R1 x2)) e3 fun ρ3 H3 x3 R3 => ?_
  obtain ⟨a, xs, rfl, q, r⟩ := ((r1.ext R1 x2).ext R2 x3).tup e4
  by_cases c : HT.sIx ds.length 0 d2 = 0 /\ HT.sIx ds.length ds.length d3 = ds.length
  · refine .inr ⟨a, xs, rfl, q, by rw [r.len]; exact c, ?_⟩
    have e6 : cutD ds d2 d3 = ds := by unfold cutD; rw [c.1, c.2]; simp
    rw [e6] at hQ
    exact hQ ρ3 _ _ ((x1.trans R1 x2).trans R2 x3) R3 (rd_mkTup q r)
  · refine .inl ⟨a, xs, rfl, q, by rw [r.len]; exact c, fun p hp => ?_⟩
    obtain ⟨R4, x4⟩ := R3.hid (ho := .tup (cutV xs d2 d3)) hp
    exact hQ ρ3 _ _ (((x1.trans R1 x2).trans R2 x3).trans R3 x4) R4 (rd_mkTup (SqT.of upd_same) ((cutD_rd r).ext R3 x4))
theorem qe_slA (K : PySem.W.Frag) {X : Cx} {e : Expr} {te : TE} {me : ME} {lo hi : Option Expr} {tl th : TO} {ml mh : MO1} {p2 pos : Pos} (h : QE K X e te me) (hl : QO K X lo tl ml) (hh : QO K X hi th mh) (hK : X.K = K := by rfl) : QE K X (.Subscript e (.Slice lo hi none p2) pos) (tSl (rSlA K) te tl th) (mSlA me ml mh) := ⟨pe_slice (sl_tupA K hK) h.p hl.p hh.p, re_slA h.r hl.r hh.r⟩
theorem we_slA {ma : ME} {ls : Ls} {QE : D -> Hd -> Prop} {ml mh : MO1} (h : WE ma ls hd fun d x => WO ml ls x fun l y => WO mh ls y fun u z => ∃ ds, tupView d = some ds /\ QE (mkTup (cutD ds l u)) z) : WE (mSlA ma ml mh) ls hd QE := by
  obtain ⟨d, x, e1, l, y, e2, u, z, e3, ds, e4, q⟩ := h
  exact ⟨_, _, by simp only [mSlA, e1, Option.bind_some, e2, e3, e4, Option.map_some], q⟩
end
section
variable {X : Cx}
theorem cat_nil {prog : Program} {w : World} {A : Around} {E : Value -> Shared -> Prop} {s : Shared} {t b : Addr} {vs ws : List Value} {Q : Value -> Shared -> Prop} (ht : IsTup s.heap t vs.toArray) (hb : IsTup s.heap b ws.toArray) (hv : vs = [])
    (h1 : Q (.ref b) s) : wpAny (model prog w) A (binaryOp .Add (.ref t) (.ref b)) Q E s := by
  obtain ⟨⟨cls, dd, data, sl⟩, ho, hc, n, hd⟩ := id ht
  obtain ⟨⟨cls2, dd2, data2, sl2⟩, ho2, hc2, n2, hd2⟩ := id hb
  simp only at hc hd hc2 hd2
  subst hc hd hc2 hd2
  exact concat_meets ⟨_, ho, rfl⟩ ⟨_, ho2, rfl⟩ noFill_tuple_add seq_tuple_add PySem.F.slot_tuple_add PySem.F.entry_tuple_add (PySem.F.args_tuple_add_2 _ _)
      (tuple_addW0 t b vs.toArray ws.toArray n n2 dd dd2 sl sl2 (by simp [hv])) ⟨ho, ho2, h1⟩
def rCatN (K : PySem.W.Frag) : R2 := fun x y H Q => ∃ a b ys, x = .ref a /\ y = .ref b /\ SqT K H a [] /\ SqT K H b ys /\ Q (.ref b) H
theorem op_catN (K : PySem.W.Frag) (hK : X.K = K := by rfl) : OpR X (binaryOp .Add) (rCatN K) := by
  subst hK
  intro pins s σ H x y v u Q I rx ry h
  obtain ⟨a, b, ys, rfl, rfl, ha, hb, q⟩ := h
  cases rx
  cases ry
  obtain ⟨its, r1, p1, _⟩ := I.tuple ha
  obtain ⟨its2, r2, p2, _⟩ := I.tuple hb
  have : its = [] := by cases r1; rfl
  exact cat_nil p1 p2 this ⟨.ref b, H, I, rfl, q⟩
def gCatN : D -> D -> Hd -> Option (D × Hd) := fun d e hd => (tupView d).bind fun a => (tupView e).bind fun b => if a = [] then some (mkTup b, hd) else none
theorem rb_catN {K : PySem.W.Frag} : RB K (rCatN K) gCatN := by
  intro ρ H hd d e v u Q z hd' hR h1 h2 hf hQ
  unfold gCatN at hf
  obtain ⟨a, e1, hf⟩ := Option.bind_eq_some_iff.mp hf
  obtain ⟨b, e2, hf⟩ := Option.bind_eq_some_iff.mp hf
  split at hf
  · next c =>
    cases hf
    subst c
    obtain ⟨p, xs, rfl, q1, r1⟩ := h1.tup e1
    obtain ⟨p2, ys, rfl, q2, r2⟩ := h2.tup e2
    have : xs = [] := by simpa [RDs] using r1
    subst this
    exact ⟨p, p2, ys, rfl, rfl, q1, q2, hQ ρ H _ .refl hR (rd_mkTup q2 r2)⟩
  · cases hf
end
section
variable {X : Cx}
theorem ps_setC2 {i : Nat} {y : Str} {elt tg iter tg2 iter2 : Expr} {ifs ifs2 : List Expr} {scope : Scope} {pos spos py : Pos} {loc fr : List Str} {ix : List Nat} {wi wi2 : TI} {g g2 : TG} {tf tf2 : TT} {te : TE} (hN : X.N.Nodup) (hiN : X.N[i]? = some y) (hy : X.env.scope.names.lookup y = some .local)
    (hc : X.calm = true) (S : CSc X scope fr ix) (hi : PI X tg iter wi)
    (hg : ∀ s H ex, PG (cCx X (loc ++ fr) scope s H ex) tg g) (hf : ∀ s H ex, PF (cCx X (loc ++ fr) scope s H ex) ifs tf) (hi2 : ∀ s H ex, PI (cCx X (loc ++ fr) scope s H ex) tg2 iter2 wi2) (hg2 : ∀ s H ex, PG (cCx X (loc ++ fr) scope s H ex) tg2 g2) (hf2 : ∀ s H ex, PF (cCx X (loc ++ fr) scope s H ex) ifs2 tf2) (he : ∀ s H ex, PE (cCx X (loc ++ fr) scope s H ex) elt te)
    (hsw : swapsWith (LC2 elt tg iter ifs tg2 iter2 ifs2 scope pos) (some (.Name y py)) spos.line X.env = pure true) (hs : ∀ x, foldedSetIterable iter X.env x = pure x) (hs2 : ∀ s H ex x, foldedSetIterable iter2 (cCx X (loc ++ fr) scope s H ex).env x = pure x) :
    PS X (.Assign [.Name y py] (LC2 elt tg iter ifs tg2 iter2 ifs2 scope pos) spos) (tAsg (tComp2 loc.length ix wi g tf wi2 g2 tf2 te) (gName i)) := by
  intro pins s σ H D I h
  have hnames : ∀ y ∈ scope.names, y.2 = .local -> scope.names.lookup y.1 = some .local := fun y hy e => by
    have := List.all_eq_true.mp S.loc y hy
    rw [e] at this
    simpa using this
  rw [exec_Assign_Name_used _ _ _ _ hsw]
  refine wpAny_bind (wpAny_standAt (wpAny_bind ?_))
  show wpAny _ _ (do let _ <- comprehension (LC2 elt tg iter ifs tg2 iter2 ifs2 scope pos) scope X.env _ (newList []) false (eval iter X.env) (some (assign (.Name y py) X.env))) _ _ s
  refine wpAny_bind (wpAny_mono (wpAny_comprehension_free (use := some (assign (.Name y py) X.env)) (Q := fun _ s' => SP X pins D .next s') rfl hs (closureFor_eq (S.clos I.ok)) S.kind hnames
    (thn (hi pins s σ H _ I h) fun v s1 h1 => thn h1 fun itv s2 h2 => ?_)) (fun _ s' hq => wpAny_pure (wpAny_pure hq)) fun _ _ e => e)
  obtain ⟨it, fp, tn, J, H2, rfl, I2, T, st2, f2, hW⟩ := h2
  refine comp2_block (RR := fun acc C => compPost (model X.prog X.w) X.A X.xe (some (assign (.Name y py) X.env)) (fun _ s' => SP X pins D .next s') acc C) hc S hg hf hi2 hg2 hf2 he hs2 I2 T st2 f2 hW fun s3 s6 H5 σ5 L I3 I6 f3 q => ?_
  have J6 : Inv X pins σ H5 s6 := after_block (h'' := s6.heap) I3 I6 f3 (.refl ..)
  obtain ⟨m, hm, _⟩ := I6.loc
  have hm : s6.heap.Ns s3.heap.objs.size m := hm
  have hL : s3.heap.objs.size ≠ X.env.locals := Ne.symm (Nat.ne_of_lt I3.lt)
  show wpAny _ _ (assign (.Name y py) X.env (.ref L)) _ _ s6
  refine wpAny_assign_Name (store_ok2 (v := .ref L) J6 hN hiN (.inl hy) rfl (fun s7 I7 ⟨a, sb, ha⟩ => ?_) (.inr hy))
  have hca : s3.heap.objs.size ≠ a := by
    rcases ha with rfl | ha
    · exact hL
    · obtain ⟨v, z⟩ := I3.cell y a ha
      exact Ne.symm (Nat.ne_of_lt z.lt)
  refine ⟨m, hm.sameBut sb hca, fun h' hs' => ?_⟩
  refine ⟨_, H5, I7.turned (t' := s7.toks) (it := s3.heap.objs.size) (fun b o hb e => (hs'.2 b hb).trans e) I6.free hL (.inr I3.sz) (fun x c e z => ?_) (fun p hp z => ?_), q⟩
  · obtain ⟨v, w⟩ := I3.cell x c e
    exact absurd w.lt (by rw [z]; exact Nat.lt_irrefl _)
  · exact absurd (Heap.lt_size (I3.pin p hp).1) (by rw [z]; exact Nat.lt_irrefl _)
end
theorem qs_setC2 (K : PySem.W.Frag) {X : Cx} {i : Nat} {y : Str} {elt tg iter tg2 iter2 : Expr} {ifs ifs2 : List Expr} {scope : Scope} {pos spos py : Pos} {loc fr : List Str} {ix : List Nat} {wi wi2 : TI} {g g2 : TG} {tf tf2 : TT} {te : TE} {mi mi2 : MI} {n n2 : MG} {mf mf2 : MT} {mm : ME} (hN : X.N.Nodup) (hiN : X.N[i]? = some y) (hy : X.env.scope.names.lookup y = some .local) (hc : X.calm = true) (S : CSc X scope fr ix) (hi : QI K X tg iter wi mi)
    (hg : ∀ s H ex, QG K (cCx X (loc ++ fr) scope s H ex) tg g n) (hf : ∀ s H ex, QF K (cCx X (loc ++ fr) scope s H ex) ifs tf mf) (hi2 : ∀ s H ex, QI K (cCx X (loc ++ fr) scope s H ex) tg2 iter2 wi2 mi2) (hg2 : ∀ s H ex, QG K (cCx X (loc ++ fr) scope s H ex) tg2 g2 n2) (hf2 : ∀ s H ex, QF K (cCx X (loc ++ fr) scope s H ex) ifs2 tf2 mf2) (he : ∀ s H ex, QE K (cCx X (loc ++ fr) scope s H ex) elt te mm)
    (hsw : swapsWith (.ListComp elt [⟨tg, iter, ifs, 0⟩, ⟨tg2, iter2, ifs2, 0⟩] scope pos) (some (.Name y py)) spos.line X.env = pure true := by rfl) (hs : ∀ x, foldedSetIterable iter X.env x = pure x := by intro _; rfl) (hs2 : ∀ s H ex x, foldedSetIterable iter2 (cCx X (loc ++ fr) scope s H ex).env x = pure x := by intro _ _ _ _; rfl) :
    QS K X (.Assign [.Name y py] (.ListComp elt [⟨tg, iter, ifs, 0⟩, ⟨tg2, iter2, ifs2, 0⟩] scope pos) spos) (tAsg (tComp2 loc.length ix wi g tf wi2 g2 tf2 te) (gName i)) (mSet i (mComp2 loc.length ix mi n mf mi2 n2 mf2 mm)) :=
  ⟨ps_setC2 hN hiN hy hc S hi.p (fun s H ex => (hg s H ex).p) (fun s H ex => (hf s H ex).p) (fun s H ex => (hi2 s H ex).p) (fun s H ex => (hg2 s H ex).p) (fun s H ex => (hf2 s H ex).p) (fun s H ex => (he s H ex).p) hsw hs hs2, rs_asg (qe_comp2 K (pos := pos) hc S hi hg hf hi2 hg2 hf2 he hs hs2).r rg_name⟩
end L2
namespace L2
open PySem PySem.Spec PyProof.Rows
section
variable {prog : Program} {w : World} {A : Around} {E : Value -> Shared -> Prop} {s : Shared}
theorem collect_tup {l : Addr} {vs : List Value} {Q : List Value -> Shared -> Prop} (hl : IsTup s.heap l vs.toArray)
    (h : Q vs { s with heap := (s.heap.push (seqObj "list" #[] 0)).update s.heap.objs.size (Obj.mapSeq (· ++ vs.toArray)) }) (hsz : vs.length <= sizeLine := by size_fits) :
    wpAny (model prog w) A (collect (.ref l)) Q E s := by
  obtain ⟨o, ho, hc, n, hd⟩ := id hl
  unfold collect
  refine wpAny_bind (wpAny_runValue (codeAny_builtin entry_proto_collect' ?_))
  show wpAny _ _ (do again (.builtin "list.__iadd__" ⟨[<- newList [], .ref l], []⟩)) _ _ s
  refine wpAny_bind (wpAny_newList (wpAny_pure ⟨Code.quiet_builtin _ (by decide +kernel), codeAny_builtin entry_list_iadd' ?_⟩))
  show wpAny _ _ (Builtin.List.listExtendWith (.ref s.heap.objs.size) (.ref l) (.ref s.heap.objs.size)) _ _ { s with heap := s.heap.push (seqObj "list" #[] 0) }
  unfold Builtin.List.listExtendWith
  have ho' : (s.heap.push (seqObj "list" #[] 0)).get? l = some o := Heap.get?_push_of_some _ ho
  refine wpAny_bind (wpAny_typeOf (T := "tuple") ⟨o, ho', hc⟩ ?_)
  have ht : (Value.type "tuple" == Value.type "tuple") = true := by rfl
  rw [if_pos (by rw [ht]; simp)]
  refine wpAny_bind (listItems_at ho' hd ?_)
  refine wpAny_bind (listItems_at (xs := #[]) (n := 0) (Heap.get?_push_size _ rfl) rfl ?_)
  rw [if_neg (by simp)]
  refine wpAny_bind (listUpdate_at (xs := #[]) (n := 0) (Heap.get?_push_size _ rfl) rfl ?_ (Nat.zero_le _) (by show (#[] ++ vs.toArray).size <= sizeLine + 1; simp only [Array.size_append, List.size_toArray, List.length_nil]; omega))
  refine wpAny_pure ?_
  show wpAny (model prog w) A (do
      let o <- load s.heap.objs.size
      match o.data with
      | .seq xs _ => pure xs.toList
      | _ => unsupported "internal:collect") Q E { s with heap := (s.heap.push (seqObj "list" #[] 0)).update s.heap.objs.size (Obj.mapSeq (· ++ vs.toArray)) }
  refine wpAny_bind (wpAny_load (get?_update_seq (Heap.get?_push_size _ rfl) _) ?_)
  show wpAny _ _ (pure ((#[] : Array Value) ++ vs.toArray).toList) Q E _
  rw [show ((#[] : Array Value) ++ vs.toArray).toList = vs by simp]
  exact wpAny_pure h
theorem sorted_intsT {l : Addr} {vs : List Value} {ns : List Int} {Q : Value -> Shared -> Prop} (hl : IsTup s.heap l vs.toArray) (hI : IntsAre vs ns) (h64 : vs.length < 64)
    (h : ∀ (out : Array Value) (ns' : List Int), IntsAre out.toList ns' -> ns'.Perm ns -> ns'.Pairwise (· <= ·) -> Q (.ref (s.heap.objs.size + 1)) { s with heap := sortedAll s.heap vs out }) :
    wpAny (model prog w) A (call (.builtin "sorted") [.ref l]) Q E s := by
  refine Calls.call_function_entry kind_sorted plain_sorted entry_sorted (args_sorted1 _) ?_
  unfold Builtin.«sorted»
  refine wpAny_bind (m := checkCount "sorted" 1 1 _) (wpAny_pure ?_)
  refine wpAny_bind (collect_tup hl ?_)
  refine wpAny_bind (wpAny_newList ?_)
  have hsz : ((s.heap.push (seqObj "list" #[] 0)).update s.heap.objs.size (Obj.mapSeq (· ++ vs.toArray))).objs.size = s.heap.objs.size + 1 := by
    rw [Heap.size_update, size_push']
  have hoL : (((s.heap.push (seqObj "list" #[] 0)).update s.heap.objs.size (Obj.mapSeq (· ++ vs.toArray))).push (seqObj "list" vs.toArray 0)).get? (s.heap.objs.size + 1) = some (seqObj "list" vs.toArray 0) := by
    rw [<- hsz]; exact Heap.get?_push_size _ rfl
  show wpAny _ _ _ _ _ { s with heap := ((s.heap.push (seqObj "list" #[] 0)).update s.heap.objs.size (Obj.mapSeq (· ++ vs.toArray))).push (seqObj "list" vs.toArray 0) }
  rw [hsz]
  refine wpAny_bind (wpAny_holding (wpAny_call_entry slot_list_sort ⟨_, hoL, rfl⟩ entry_list_sort (list_sort_tree hoL hI h64 fun out ns' a1 a2 a3 => ⟨_, rfl, ?_⟩) (args_list_sort _)))
  exact wpAny_pure ⟨_, rfl, h out ns' a1 a2 a3⟩
end
end L2
namespace L2
open PySem PySem.Spec PyProof.Rows
section
variable (K : PySem.W.Frag) {X : Cx}
def rSortedT : List V -> Hp -> VK -> Prop := fun xs H Q => ∃ (a : Addr) (ns : List Int), xs = [.ref a] /\ SqT K H a (ns.map V.int) /\ ns.length < 64 /\ ∀ (p : Addr) (ns' : List Int), H p = none -> ns'.Perm ns -> ns'.Pairwise (· <= ·) -> Q (.ref p) (upd H p (.lst (ns'.map V.int)))
theorem call_sortedT (hK : X.K = K := by rfl) : CallR X (.builtin "sorted") (rSortedT K) := by
  subst hK
  intro pins s σ H xs us Q I r h
  obtain ⟨a, ns, rfl, hq, h64, q⟩ := h
  obtain ⟨u, rfl, ru⟩ := vals1 r
  cases ru
  obtain ⟨its, rv, p, hz⟩ := I.tuple hq
  have hlen := rv.length
  rw [List.length_map] at hlen
  refine sorted_intsT p (ints_of rv) (by omega) fun out ns' a1 a2 a3 => ?_
  obtain ⟨e, he⟩ := sortedAll_at s.heap its out
  have hl' : ns'.length = ns.length := a2.length_eq
  refine ⟨.ref (s.heap.objs.size + 1), _, I.laid (a := s.heap.objs.size + 1) (o := .lst (ns'.map V.int)) (t' := s.toks) (fun b o hb => sortedAll_old hb) (Nat.le_succ _) ⟨?_, out.toList, e, vals_of a1, he⟩, rfl, q _ _ (I.hok.fresh (Nat.le_succ _)) a2 a3⟩
  rw [List.length_map, hl']
  exact Nat.le_of_lt (small1000 (by omega))
end
section
variable {K : PySem.W.Frag}
theorem rn_sortedT {t : TE} {m : MI} (h : RRw K true t m) : RN K (tCB (rSortedT K) (tCons t tNil)) (mSorted m) := by
  intro ρ σ H hd ls Q d hd' hR hL hm hQ
  obtain ⟨⟨⟨d1, g1⟩, h1⟩, e1, hm⟩ := Option.bind_eq_some_iff.mp hm
  obtain ⟨ns, e2, hm⟩ := Option.bind_eq_some_iff.mp hm
  split at hm
  · next c =>
    cases hm
    refine h ρ σ H hd ls _ d1 g1 _ hR hL e1 fun ρ1 H1 a x1 R1 G1 S1 => ?_
    obtain ⟨xs, q, r⟩ := S1 ρ1 H1 _ .refl R1 G1
    have e3 : d1 = ns.map fun i => .im (.int i) := intsD_eq e2
    rw [e3] at r
    have := rd_ints r
    subst this
    refine ⟨a, ns, rfl, q, c, fun p ns' hp pm pw => ?_⟩
    have : ns' = sortI ns := perm_sorted_eq (pm.trans (sortI_perm ns).symm) pw (sortI_sorted ns)
    subst this
    obtain ⟨R2, x2⟩ := R1.hid (ho := .lst ((sortI ns).map V.int)) hp
    exact hQ ρ1 _ p _ (x1.trans R1 x2) R2 (x1.none hR hp R1) (R1.out hp) upd_same ints_rd
  · cases hm
theorem qn_sortedT (K : PySem.W.Frag) {X : Cx} {e : Expr} {te : TE} {mi : MI} {p pos : Pos} (hm : X.mg "sorted" = none) (ha : QR K true X e te mi) (hg : Gl X "sorted" := by rfl) (he : starEach [e] X.env = [(false, eval e X.env)] := by rfl) (hK : X.K = K := by rfl) : QN K X (.Call (.Name "sorted" p) [e] [] pos) (tCB (rSortedT K) (tCons te tNil)) (mSorted mi) :=
  ⟨pe_callB (call_sortedT K hK) hg hm bt_sorted (pa_cons ha.p pa_nil he) (by decide) (by decide) he rfl, rn_sortedT ha.r⟩
end
end L2
namespace L2
noncomputable abbrev gAddN := fElse gAddA gCatN
end L2
namespace T61
open PySem L2
def top (i : Nat) : Stmt := PySem.Challenge.pw_benchdays_k61_whole_ratio_is_best.main.body.getD i (.Pass ⟨0, 0, 0, 0⟩)
abbrev s_common_divisor : Stmt := top 1
theorem sc_common_divisor : FnScope ["one", "other"] ["one", "other"] (defScope s_common_divisor) := ⟨rfl, rfl, rfl, by decide +kernel, rfl, by decide +kernel, by decide +kernel⟩
@[reducible] noncomputable def m_common_divisor : MS := (mSeq (mSet 0 (mCB fAbs (mCons (mVar 0) mNil)))
    (mSeq (mWhile (mTest (mOp gNe (mVar 1) (mC (.int 0))))
      (mPar [0, 1] (mCons (mVar 1) (mCons (mOp gMod (mVar 0) (mVar 1)) mNil))))
    (mRet (mVar 0))))
noncomputable def F_common_divisor : List D -> Hd -> Option (D × Hd) := mkF 2 2 m_common_divisor
abbrev s_fraction : Stmt := top 2
theorem sc_fraction : FnScope ["top", "bottom", "shared"] ["top", "bottom"] (defScope s_fraction) := ⟨rfl, rfl, rfl, by decide +kernel, rfl, by decide +kernel, by decide +kernel⟩
@[reducible] noncomputable def m_fraction : MS := (mSeq (mIfS (mTest (mOp gLt (mVar 1) (mC (.int 0))))
      (mPar [0, 1] (mCons (mNeg (mVar 0)) (mCons (mNeg (mVar 1)) mNil)))
      mNext)
    (mSeq (mSet 2 (mCallW 0 F_common_divisor (mCons (mVar 0) (mCons (mVar 1) mNil))))
    (mRet (mTup (mCons (mOp gFdiv (mVar 0) (mVar 2)) (mCons (mOp gFdiv (mVar 1) (mVar 2)) mNil))))))
noncomputable def F_fraction : List D -> Hd -> Option (D × Hd) := mkF 2 3 m_fraction
abbrev s_less : Stmt := top 3
theorem sc_less : FnScope ["one", "other"] ["one", "other"] (defScope s_less) := ⟨rfl, rfl, rfl, by decide +kernel, rfl, by decide +kernel, by decide +kernel⟩
@[reducible] noncomputable def m_less : MS := (mRet (mOp gLt (mOp gMul (mOp gIx (mVar 0) (mC (.int 0))) (mOp gIx (mVar 1) (mC (.int 1)))) (mOp gMul (mOp gIx (mVar 1) (mC (.int 0))) (mOp gIx (mVar 0) (mC (.int 1))))))
noncomputable def F_less : List D -> Hd -> Option (D × Hd) := mkF 2 2 m_less
abbrev s_falling : Stmt := top 4
theorem sc_falling : FnScope ["ratios", "row", "k", "ratio"] ["ratios"] (defScope s_falling) := ⟨rfl, rfl, rfl, by decide +kernel, rfl, by decide +kernel, by decide +kernel⟩
@[reducible] noncomputable def m_falling : MS := (mSeq (mSet 1 (mNew (mLst mNil)))
    (mSeq (mFor (mEnum (mItL (mVar 0))) (nTup 2 (nCons (nName 2) (nCons (nName 3) nNil)))
      (mDrop (mMt fInsert (mVar 1) (mCons (mHid kLen (mComp 1 [0, 3] (mItL (mVar 1)) (nName 0) (mNot (mTru (mCallW 0 F_less (mCons (mOp gIx (mVar 1) (mVar 0)) (mCons (mVar 2) mNil))))) (mVar 0))) (mCons (mVar 2) mNil)))))
    (mRet (mVar 1))))
noncomputable def F_falling : List D -> Hd -> Option (D × Hd) := mkF 1 4 m_falling
abbrev s_steps_at : Stmt := top 9
theorem sc_steps_at : FnScope ["rows", "t", "told", "begin", "amount"] ["rows", "t"] (defScope s_steps_at) := ⟨rfl, rfl, rfl, by decide +kernel, rfl, by decide +kernel, by decide +kernel⟩
@[reducible] noncomputable def m_steps_at : MS := (mSeq (mSet 2 (mC (.int 0)))
    (mSeq (mFor (mItT (mVar 0)) (nTup 2 (nCons (nName 3) (nCons (nName 4) nNil)))
      (mSeq (mIfS (mTest (mOp gGt (mVar 3) (mVar 1)))
      (mRet (mVar 2))
      mNext)
    (mSet 2 (mVar 4))))
    (mRet (mVar 2))))
noncomputable def F_steps_at : List D -> Hd -> Option (D × Hd) := mkF 2 5 m_steps_at
abbrev s_cost_at : Stmt := top 10
theorem sc_cost_at : FnScope ["cost", "t", "word", "above"] ["cost", "t"] (defScope s_cost_at) := ⟨rfl, rfl, rfl, by decide +kernel, rfl, by decide +kernel, by decide +kernel⟩
@[reducible] noncomputable def m_cost_at : MS := (mSeq (mSet 2 (mOp gIx (mVar 0) (mC (.int 0))))
    (mSeq (mIfS (mTest (mOp gEq (mVar 2) (mC (.str "steps"))))
      (mRet (mCallW 0 F_steps_at (mCons (mOp gIx (mVar 0) (mC (.int 1))) (mCons (mVar 1) mNil))))
      mNext)
    (mSeq (mIfS (mTest (mOp gEq (mVar 2) (mC (.str "ends"))))
      (mRet (mOp gMul (mOp gIx (mVar 0) (mC (.int 1))) (mVar 1)))
      mNext)
    (mSeq (mSet 3 (mOp gSubt (mVar 1) (mOp gIx (mVar 0) (mC (.int 1)))))
    (mSeq (mIfS (mTest (mOp gEq (mVar 2) (mC (.str "late"))))
      (mRet (mVar 3))
      mNext)
    (mSeq (mIfS (mTest (mOp gLe (mVar 3) (mC (.int 0))))
      (mRet (mC (.int 0)))
      mNext)
    (mSeq (mIfS (mTest (mOp gEq (mVar 2) (mC (.str "tardy"))))
      (mRet (mOp gMul (mOp gIx (mVar 0) (mC (.int 2))) (mVar 3)))
      mNext)
    (mRet (mOp gIx (mVar 0) (mC (.int 2)))))))))))
noncomputable def F_cost_at : List D -> Hd -> Option (D × Hd) := mkF 2 4 m_cost_at
abbrev s_length_of : Stmt := top 12
theorem sc_length_of : FnScope ["works", "some"] ["works", "some"] (defScope s_length_of) := ⟨rfl, rfl, rfl, by decide +kernel, rfl, by decide +kernel, by decide +kernel⟩
@[reducible] noncomputable def m_length_of : MS := (mRet (mHid kSum (mComp 1 [0] (mItT (mVar 1)) (nName 0) mYes (mOp gIx (mOp gIx (mVar 1) (mVar 0)) (mC (.int 0))))))
noncomputable def F_length_of : List D -> Hd -> Option (D × Hd) := mkF 2 2 m_length_of
abbrev s_same_coming : Stmt := top 13
theorem sc_same_coming : FnScope ["works", "coming"] ["works"] (defScope s_same_coming) := ⟨rfl, rfl, rfl, by decide +kernel, rfl, by decide +kernel, by decide +kernel⟩
@[reducible] noncomputable def m_same_coming : MS := (mSeq (mSet 1 (mOp gIx (mOp gIx (mVar 0) (mC (.int 0))) (mC (.int 1))))
    (mSeq (mIfS (mTru (mHid kAll (mComp 1 [1] (mItT (mVar 0)) (nName 0) mYes (mOp gEq (mOp gIx (mVar 0) (mC (.int 1))) (mVar 1)))))
      (mRet (mVar 1))
      mNext)
    (mRet (mC .non))))
noncomputable def F_same_coming : List D -> Hd -> Option (D × Hd) := mkF 1 2 m_same_coming
abbrev s_one_coming : Stmt := top 14
theorem sc_one_coming : FnScope ["works", "coming"] ["works"] (defScope s_one_coming) := ⟨rfl, rfl, rfl, by decide +kernel, rfl, by decide +kernel, by decide +kernel⟩
@[reducible] noncomputable def m_one_coming : MS := (mSeq (mSet 1 (mCallW 0 F_same_coming (mCons (mVar 0) mNil)))
    (mSeq (mIfS (mTest (mIsN false (mVar 1)))
      mNever
      mNext)
    (mRet (mVar 1))))
noncomputable def F_one_coming : List D -> Hd -> Option (D × Hd) := mkF 1 2 m_one_coming
abbrev s_refuse_other_costs : Stmt := top 15
theorem sc_refuse_other_costs : FnScope ["works", "word"] ["works", "word"] (defScope s_refuse_other_costs) := ⟨rfl, rfl, rfl, by decide +kernel, rfl, by decide +kernel, by decide +kernel⟩
@[reducible] noncomputable def m_refuse_other_costs : MS := (mIfS (mTru (mHid kAny (mComp 1 [1] (mItT (mVar 0)) (nName 0) mYes (mOp gNe (mOp gIx (mOp gIx (mVar 0) (mC (.int 2))) (mC (.int 0))) (mVar 1)))))
      mNever
      mNext)
noncomputable def F_refuse_other_costs : List D -> Hd -> Option (D × Hd) := mkF 2 2 m_refuse_other_costs
abbrev s_weight_of : Stmt := top 16
theorem sc_weight_of : FnScope ["work"] ["work"] (defScope s_weight_of) := ⟨rfl, rfl, rfl, by decide +kernel, rfl, by decide +kernel, by decide +kernel⟩
@[reducible] noncomputable def m_weight_of : MS := (mRet (mOp gIx (mOp gIx (mVar 0) (mC (.int 2))) (mNeg (mC (.int 1)))))
noncomputable def F_weight_of : List D -> Hd -> Option (D × Hd) := mkF 1 1 m_weight_of
abbrev s_weighted_coming : Stmt := top 18
theorem sc_weighted_coming : FnScope ["works", "coming"] ["works"] (defScope s_weighted_coming) := ⟨rfl, rfl, rfl, by decide +kernel, rfl, by decide +kernel, by decide +kernel⟩
@[reducible] noncomputable def m_weighted_coming : MS := (mSeq (mSet 1 (mCallW 0 F_one_coming (mCons (mVar 0) mNil)))
    (mSeq (mDrop (mCallW 0 F_refuse_other_costs (mCons (mVar 0) (mCons (mC (.str "ends")) mNil))))
    (mRet (mVar 1))))
noncomputable def F_weighted_coming : List D -> Hd -> Option (D × Hd) := mkF 1 2 m_weighted_coming
abbrev s_ratio_of : Stmt := top 19
theorem sc_ratio_of : FnScope ["works", "some"] ["works", "some"] (defScope s_ratio_of) := ⟨rfl, rfl, rfl, by decide +kernel, rfl, by decide +kernel, by decide +kernel⟩
@[reducible] noncomputable def m_ratio_of : MS := (mRet (mCallW 0 F_fraction (mCons (mHid kSum (mComp 1 [0] (mItT (mVar 1)) (nName 0) mYes (mCallW 0 F_weight_of (mCons (mOp gIx (mVar 1) (mVar 0)) mNil)))) (mCons (mCallW 0 F_length_of (mCons (mVar 0) (mCons (mVar 1) mNil))) mNil))))
noncomputable def F_ratio_of : List D -> Hd -> Option (D × Hd) := mkF 2 2 m_ratio_of
abbrev s_ratio_order : Stmt := top 20
theorem sc_ratio_order : FnScope ["works"] ["works"] (defScope s_ratio_order) := ⟨rfl, rfl, rfl, by decide +kernel, rfl, by decide +kernel, by decide +kernel⟩
@[reducible] noncomputable def m_ratio_order : MS := (mSeq (mDrop (mCallW 0 F_weighted_coming (mCons (mVar 0) mNil)))
    (mRet (mCB (f1 true kTuple) (mCons (mCallG F_falling (mCons (mNew (mComp 1 [0] (mItR (mCons (mCB (f1 true kLen) (mCons (mVar 0) mNil)) mNil)) (nName 0) mYes (mCallW 0 F_ratio_of (mCons (mVar 1) (mCons (mTup (mCons (mVar 0) mNil)) mNil))))) mNil)) mNil))))
noncomputable def F_ratio_order : List D -> Hd -> Option (D × Hd) := mkF 1 1 m_ratio_order
abbrev s_pair_sum_of : Stmt := top 21
theorem sc_pair_sum_of : FnScope ["coming", "lengths", "weights", "alone", "pairs"] ["coming", "lengths", "weights"] (defScope s_pair_sum_of) := ⟨rfl, rfl, rfl, by decide +kernel, rfl, by decide +kernel, by decide +kernel⟩
@[reducible] noncomputable def m_pair_sum_of : MS := (mSeq (mSet 3 (mHid kSum (mComp 2 [0] (mZip (mItL (mVar 1)) (mItL (mVar 2))) (nTup 2 (nCons (nName 0) (nCons (nName 1) nNil))) mYes (mOp gMul (mVar 1) (mOp gAddA (mVar 2) (mVar 0))))))
    (mSeq (mSet 4 (mComp2 2 [] (mItR (mCons (mCB (f1 true kLen) (mCons (mVar 1) mNil)) mNil)) (nName 0) mYes (mItR (mCons (mVar 0) mNil)) (nName 1) mYes (mTup (mCons (mVar 1) (mCons (mVar 0) mNil)))))
    (mRet (mOp gAddA (mVar 3) (mHid kSum (mComp 2 [1, 2] (mItL (mVar 4)) (nTup 2 (nCons (nName 0) (nCons (nName 1) nNil))) mYes (mCB fMin2 (mCons (mOp gMul (mOp gIx (mVar 2) (mVar 0)) (mOp gIx (mVar 3) (mVar 1))) (mCons (mOp gMul (mOp gIx (mVar 2) (mVar 1)) (mOp gIx (mVar 3) (mVar 0))) mNil)))))))))
noncomputable def F_pair_sum_of : List D -> Hd -> Option (D × Hd) := mkF 3 5 m_pair_sum_of
abbrev s_pair_sum : Stmt := top 22
theorem sc_pair_sum : FnScope ["works", "coming"] ["works"] (defScope s_pair_sum) := ⟨rfl, rfl, rfl, by decide +kernel, rfl, by decide +kernel, by decide +kernel⟩
@[reducible] noncomputable def m_pair_sum : MS := (mSeq (mSet 1 (mCallW 0 F_weighted_coming (mCons (mVar 0) mNil)))
    (mRet (mCallG F_pair_sum_of (mCons (mVar 1) (mCons (mNew (mComp 1 [] (mItT (mVar 0)) (nName 0) mYes (mOp gIx (mVar 0) (mC (.int 0))))) (mCons (mNew (mComp 1 [] (mItT (mVar 0)) (nName 0) mYes (mCallW 0 F_weight_of (mCons (mVar 0) mNil)))) mNil))))))
noncomputable def F_pair_sum : List D -> Hd -> Option (D × Hd) := mkF 1 2 m_pair_sum
abbrev s_run : Stmt := top 24
theorem sc_run : FnScope ["works", "order", "pieces", "end", "work", "length", "coming", "cost", "begin"] ["works", "order"] (defScope s_run) := ⟨rfl, rfl, rfl, by decide +kernel, rfl, by decide +kernel, by decide +kernel⟩
@[reducible] noncomputable def m_run : MS := (mSeq (mSet 2 (mNew (mLst mNil)))
    (mSeq (mSet 3 (mC (.int 0)))
    (mSeq (mFor (mItT (mVar 1)) (nName 4)
      (mSeq (mAsg (mOp gIx (mVar 0) (mVar 4)) (nTup 3 (nCons (nName 5) (nCons (nName 6) (nCons (nName 7) nNil)))))
    (mSeq (mSet 8 (mCB fMax2 (mCons (mVar 6) (mCons (mVar 3) mNil))))
    (mSeq (mSet 3 (mOp gAddA (mVar 8) (mVar 5)))
    (mDrop (mMt fAppend (mVar 2) (mCons (mTup (mCons (mVar 4) (mCons (mVar 8) (mCons (mVar 3) mNil)))) mNil)))))))
    (mRet (mCB (f1 true kTuple) (mCons (mVar 2) mNil))))))
noncomputable def F_run : List D -> Hd -> Option (D × Hd) := mkF 2 9 m_run
abbrev s_ends_of : Stmt := top 26
theorem sc_ends_of : FnScope ["works", "plan", "ends", "work", "begin", "end"] ["works", "plan"] (defScope s_ends_of) := ⟨rfl, rfl, rfl, by decide +kernel, rfl, by decide +kernel, by decide +kernel⟩
@[reducible] noncomputable def m_ends_of : MS := (mSeq (mSet 2 (mNew (mComp 1 [] (mItT (mVar 0)) (nName 0) mYes (mC (.int 0)))))
    (mSeq (mFor (mItT (mVar 1)) (nTup 3 (nCons (nName 3) (nCons (nName 4) (nCons (nName 5) nNil))))
      (mLPut (mVar 2) (mVar 3) (mVar 5)))
    (mRet (mCB (f1 true kTuple) (mCons (mVar 2) mNil)))))
noncomputable def F_ends_of : List D -> Hd -> Option (D × Hd) := mkF 2 6 m_ends_of
abbrev s_costs_of : Stmt := top 28
theorem sc_costs_of : FnScope ["works", "ends"] ["works", "ends"] (defScope s_costs_of) := ⟨rfl, rfl, rfl, by decide +kernel, rfl, by decide +kernel, by decide +kernel⟩
@[reducible] noncomputable def m_costs_of : MS := (mRet (mHid kTuple (mComp 2 [] (mZip (mItT (mVar 0)) (mItT (mVar 1))) (nTup 2 (nCons (nName 0) (nCons (nName 1) nNil))) mYes (mCallW 0 F_cost_at (mCons (mOp gIx (mVar 0) (mC (.int 2))) (mCons (mVar 1) mNil))))))
noncomputable def F_costs_of : List D -> Hd -> Option (D × Hd) := mkF 2 2 m_costs_of
abbrev s_worth : Stmt := top 29
theorem sc_worth : FnScope ["works", "ends", "question", "costs"] ["works", "ends", "question"] (defScope s_worth) := ⟨rfl, rfl, rfl, by decide +kernel, rfl, by decide +kernel, by decide +kernel⟩
@[reducible] noncomputable def m_worth : MS := (mSeq (mSet 3 (mCallW 0 F_costs_of (mCons (mVar 0) (mCons (mVar 1) mNil))))
    (mSeq (mIfS (mTest (mOp gEq (mVar 2) (mC (.str "greatest"))))
      (mRet (mCB (f1 true kMax) (mCons (mVar 3) mNil)))
      mNext)
    (mRet (mCB (f1 true kSum) (mCons (mVar 3) mNil)))))
noncomputable def F_worth : List D -> Hd -> Option (D × Hd) := mkF 3 4 m_worth
abbrev s_tape : Stmt := top 31
theorem sc_tape : FnScope ["_law_script"] ["_law_script"] (defScope s_tape) := ⟨rfl, rfl, rfl, by decide +kernel, rfl, by decide +kernel, by decide +kernel⟩
@[reducible] noncomputable def m_tape : MS := (mRet (mNew (mLst (mCons (mNew (mListH (mSlL (mVar 0) mNoPart (mPart (mC (.int 63)))))) (mCons (mC (.int 0)) (mCons (mC (.int 0)) (mCons (mC (.int 0)) mNil)))))))
noncomputable def F_tape : List D -> Hd -> Option (D × Hd) := mkF 1 1 m_tape
abbrev s_pick : Stmt := top 32
theorem sc_pick : FnScope ["_law_tape_here", "_law_many", "_law_found", "_law_at", "_law_cell", "_law_mixed"] ["_law_tape_here", "_law_many"] (defScope s_pick) := ⟨rfl, rfl, rfl, by decide +kernel, rfl, by decide +kernel, by decide +kernel⟩
@[reducible] noncomputable def m_pick : MS := (mSeq (mLPut (mVar 0) (mC (.int 3)) (mOp gAddA (mOp gIx (mVar 0) (mC (.int 3))) (mC (.int 1))))
    (mSeq (mIfS (mTest (mOp gGt (mOp gIx (mVar 0) (mC (.int 2))) (mC (.int 0))))
      (mSeq (mSet 2 (mOp gMod (mOp gIx (mVar 0) (mC (.int 2))) (mVar 1)))
    (mSeq (mLPut (mVar 0) (mC (.int 2)) (mOp gFdiv (mOp gIx (mVar 0) (mC (.int 2))) (mVar 1)))
    (mRet (mVar 2))))
      mNext)
    (mSeq (mSet 3 (mOp gIx (mVar 0) (mC (.int 1))))
    (mSeq (mLPut (mVar 0) (mC (.int 1)) (mOp gAddA (mVar 3) (mC (.int 1))))
    (mSeq (mSet 4 (mIf (mTest (mEqEN true (mOp gIx (mVar 0) (mC (.int 0))) (mLst mNil))) (mOp gIx (mOp gIx (mVar 0) (mC (.int 0))) (mOp gMod (mVar 3) (mCB (f1 true kLen) (mCons (mOp gIx (mVar 0) (mC (.int 0))) mNil)))) (mC (.int 6))))
    (mSeq (mIfS (mAnd (mTest (mOp gGe (mVar 4) (mOp gPow (mC (.int 10)) (mC (.int 18))))) (mTest (mOp gLt (mVar 3) (mCB (f1 true kLen) (mCons (mOp gIx (mVar 0) (mC (.int 0))) mNil)))))
      (mSeq (mLPut (mVar 0) (mC (.int 2)) (mOp gFdiv (mVar 4) (mVar 1)))
    (mRet (mOp gMod (mVar 4) (mVar 1))))
      mNext)
    (mSeq (mSet 5 (mOp gMod (mOp gAddA (mOp gAddA (mOp gMod (mVar 4) (mC (.int 2147483647))) (mOp gMul (mC (.int 40503)) (mOp gIx (mVar 0) (mC (.int 3))))) (mC (.int 11))) (mC (.int 2147483629))))
    (mSeq (mSet 5 (mOp gMod (mOp gAddA (mOp gAddA (mOp gMul (mVar 5) (mVar 5)) (mOp gMul (mC (.int 25717)) (mOp gIx (mVar 0) (mC (.int 3))))) (mC (.int 3))) (mC (.int 2147483587))))
    (mSeq (mSet 5 (mOp gMod (mOp gAddA (mOp gAddA (mOp gMul (mVar 5) (mVar 5)) (mOp gMul (mC (.int 16807)) (mVar 5))) (mC (.int 1))) (mC (.int 2147483579))))
    (mRet (mOp gMod (mOp gFdiv (mVar 5) (mC (.int 256))) (mVar 1))))))))))))
noncomputable def F_pick : List D -> Hd -> Option (D × Hd) := mkF 2 6 m_pick
abbrev s_works : Stmt := top 33
theorem sc_works : FnScope ["_law_tape_here", "_law_many", "_law_long", "_law_heavy", "_law_low", "_law_coming", "_law_found", "_law_j", "_law_length", "_law_weight", "_law_one", "_law_small", "_law_by"] ["_law_tape_here", "_law_many"] (defScope s_works) := ⟨rfl, rfl, rfl, by decide +kernel, rfl, by decide +kernel, by decide +kernel⟩
@[reducible] noncomputable def m_works : MS := (mSeq (mAsg (mIxH (mLst (mCons (mTup (mCons (mC (.int 20)) (mCons (mC (.int 10)) (mCons (mC (.int 0)) mNil)))) (mCons (mTup (mCons (mC (.int 3)) (mCons (mC (.int 3)) (mCons (mC (.int 0)) mNil)))) (mCons (mTup (mCons (mC (.int 20)) (mCons (mC (.int 2)) (mCons (mC (.int 0)) mNil)))) (mCons (mTup (mCons (mC (.int 1000000)) (mCons (mC (.int 1000001)) (mCons (mC (.int 0)) mNil)))) mNil))))) (mCallW 2 F_pick (mCons (mVar 0) (mCons (mC (.int 4)) mNil)))) (nTup 3 (nCons (nName 2) (nCons (nName 3) (nCons (nName 4) nNil)))))
    (mSeq (mIfS (mAnd (mTest (mOp gEq (mVar 2) (mC (.int 1000000)))) (mTest (mOp gEq (mCallW 2 F_pick (mCons (mVar 0) (mCons (mC (.int 2)) mNil))) (mC (.int 0)))))
      (mAsg (mTup (mCons (mC (.int 8)) (mCons (mC (.int 9)) (mCons (mC (.int 999992)) mNil)))) (nTup 3 (nCons (nName 2) (nCons (nName 3) (nCons (nName 4) nNil)))))
      mNext)
    (mSeq (mSet 5 (mIxH (mLst (mCons (mC (.int 0)) (mCons (mCallW 2 F_pick (mCons (mVar 0) (mCons (mC (.int 61)) mNil))) mNil))) (mCallW 2 F_pick (mCons (mVar 0) (mCons (mC (.int 2)) mNil)))))
    (mSeq (mSet 6 (mNew (mLst mNil)))
    (mSeq (mFor (mItR (mCons (mVar 1) mNil)) (nName 7)
      (mSeq (mPar [8, 9] (mCons (mOp gAddA (mOp gAddA (mC (.int 1)) (mVar 4)) (mCallW 2 F_pick (mCons (mVar 0) (mCons (mVar 2) mNil)))) (mCons (mOp gAddA (mVar 4) (mCallW 2 F_pick (mCons (mVar 0) (mCons (mVar 3) mNil)))) mNil)))
    (mSeq (mIfS (mAnd (mTest (mOp gGt (mVar 7) (mC (.int 0)))) (mTest (mOp gEq (mCallW 2 F_pick (mCons (mVar 0) (mCons (mC (.int 3)) mNil))) (mC (.int 0)))))
      (mSeq (mSet 10 (mOp gIx (mVar 6) (mCallW 2 F_pick (mCons (mVar 0) (mCons (mVar 7) mNil)))))
    (mSeq (mSet 11 (mAndV (mOp gLe (mOp gMul (mOp gIx (mVar 10) (mC (.int 0))) (mC (.int 3))) (mVar 2)) (mOp gLt (mOp gMul (mOp gIx (mOp gIx (mVar 10) (mC (.int 2))) (mC (.int 1))) (mC (.int 3))) (mVar 3))))
    (mSeq (mSet 12 (mIf (mTru (mVar 11)) (mOp gAddA (mC (.int 1)) (mCallW 2 F_pick (mCons (mVar 0) (mCons (mC (.int 3)) mNil)))) (mC (.int 1))))
    (mPar [8, 9] (mCons (mOp gMul (mOp gIx (mVar 10) (mC (.int 0))) (mVar 12)) (mCons (mOp gMul (mOp gIx (mOp gIx (mVar 10) (mC (.int 2))) (mC (.int 1))) (mVar 12)) mNil))))))
      mNext)
    (mDrop (mMt fAppend (mVar 6) (mCons (mTup (mCons (mVar 8) (mCons (mVar 5) (mCons (mTup (mCons (mC (.str "ends")) (mCons (mVar 9) mNil))) mNil)))) mNil))))))
    (mRet (mCB (f1 true kTuple) (mCons (mVar 6) mNil))))))))
noncomputable def F_works : List D -> Hd -> Option (D × Hd) := mkF 2 13 m_works
abbrev s_orders : Stmt := top 34
theorem sc_orders : FnScope ["_law_tape_here", "_law_many", "_law_found", "_law_j", "_law_wider", "_law_row", "_law_at", "_law_turn", "_law_left", "_law_k"] ["_law_tape_here", "_law_many"] (defScope s_orders) := ⟨rfl, rfl, rfl, by decide +kernel, rfl, by decide +kernel, by decide +kernel⟩
@[reducible] noncomputable def m_orders : MS := (mSeq (mSet 2 (mNew (mLst (mCons (mTup mNil) mNil))))
    (mSeq (mIfS (mTest (mOp gLt (mVar 1) (mC (.int 6))))
      (mSeq (mFor (mItR (mCons (mVar 1) mNil)) (nName 3)
      (mSeq (mSet 4 (mNew (mLst mNil)))
    (mSeq (mFor (mItL (mVar 2)) (nName 5)
      (mFor (mItR (mCons (mOp gAddA (mCB (f1 true kLen) (mCons (mVar 5) mNil)) (mC (.int 1))) mNil)) (nName 6)
      (mDrop (mMt fAppend (mVar 4) (mCons (mOp gAddA (mOp gAddN (mSlA (mVar 5) mNoPart (mPart (mVar 6))) (mTup (mCons (mVar 3) mNil))) (mSlA (mVar 5) (mPart (mVar 6)) mNoPart)) mNil)))))
    (mSet 2 (mVar 4)))))
    (mRet (mVar 2)))
      mNext)
    (mSeq (mFor (mItR (mCons (mC (.int 24)) mNil)) (nName 7)
      (mTrimD (mSeq (mPar [8, 5] (mCons (mNew (mRng (mCons (mVar 1) mNil))) (mCons (mNew (mLst mNil)) mNil)))
    (mSeq (mFor (mItR (mCons (mVar 1) mNil)) (nName 9)
      (mDrop (mMt fAppend (mVar 5) (mCons (mMt fPopAt (mVar 8) (mCons (mCallW 2 F_pick (mCons (mVar 0) (mCons (mCB (f1 true kLen) (mCons (mVar 8) mNil)) mNil))) mNil)) mNil))))
    (mDrop (mMt fAppend (mVar 2) (mCons (mCB (f1 true kTuple) (mCons (mVar 5) mNil)) mNil)))))))
    (mRet (mNew (mSlL (mVar 2) (mPart (mC (.int 1))) mNoPart))))))
noncomputable def F_orders : List D -> Hd -> Option (D × Hd) := mkF 2 10 m_orders
abbrev s_cost : Stmt := top 35
theorem sc_cost : FnScope ["_law_works_here", "_law_order", "_law_end", "_law_found", "_law_j"] ["_law_works_here", "_law_order"] (defScope s_cost) := ⟨rfl, rfl, rfl, by decide +kernel, rfl, by decide +kernel, by decide +kernel⟩
@[reducible] noncomputable def m_cost : MS := (mSeq (mPar [2, 3] (mCons (mOp gIx (mOp gIx (mVar 0) (mC (.int 0))) (mC (.int 1))) (mCons (mC (.int 0)) mNil)))
    (mSeq (mFor (mItT (mVar 1)) (nName 4)
      (mSeq (mSet 2 (mOp gAddA (mVar 2) (mOp gIx (mOp gIx (mVar 0) (mVar 4)) (mC (.int 0)))))
    (mSet 3 (mOp gAddA (mVar 3) (mOp gMul (mOp gIx (mOp gIx (mOp gIx (mVar 0) (mVar 4)) (mC (.int 2))) (mC (.int 1))) (mVar 2))))))
    (mRet (mVar 3))))
noncomputable def F_cost : List D -> Hd -> Option (D × Hd) := mkF 2 5 m_cost
abbrev s_law : Stmt := top 36
theorem sc_law : FnScope ["_law_script", "_law_tape_here", "_law_turn", "_law_works_here", "_law_least", "_law_order", "_law_costs", "_law_small"] ["_law_script"] (defScope s_law) := ⟨rfl, rfl, rfl, by decide +kernel, rfl, by decide +kernel, by decide +kernel⟩
@[reducible] noncomputable def m_law : MS := (mSeq (mSet 1 (mCallG F_tape (mCons (mVar 0) mNil)))
    (mSeq (mFor (mItR (mCons (mC (.int 2)) mNil)) (nName 2)
      (mTrimD (mSeq (mSet 3 (mCallW 2 F_works (mCons (mVar 1) (mCons (mOp gAddA (mC (.int 1)) (mCallW 2 F_pick (mCons (mVar 1) (mCons (mC (.int 8)) mNil)))) mNil))))
    (mSeq (mPar [4, 5] (mCons (mCallW 0 F_pair_sum (mCons (mVar 3) mNil)) (mCons (mCallW 0 F_ratio_order (mCons (mVar 3) mNil)) mNil)))
    (mSeq (mIfS (mOr (mNot (mTru (mIsi .int (mVar 4)))) (mOr (mTru (mIsi .bool (mVar 4))) (mNot (mTru (mIsi .tuple (mVar 5))))))
      (mRet (mC (.bl false)))
      mNext)
    (mSeq (mIfS (mOr (mTest (mEqNN true (mSorted (mItT (mVar 5))) (mRng (mCons (mCB (f1 true kLen) (mCons (mVar 3) mNil)) mNil)))) (mTest (mOp gNe (mCallW 0 F_cost (mCons (mVar 3) (mCons (mVar 5) mNil))) (mVar 4))))
      (mRet (mC (.bl false)))
      mNext)
    (mSeq (mSet 6 (mNew (mComp 1 [3] (mItL (mCallW 2 F_orders (mCons (mVar 1) (mCons (mCB (f1 true kLen) (mCons (mVar 3) mNil)) mNil)))) (nName 0) mYes (mCallW 0 F_cost (mCons (mVar 1) (mCons (mVar 0) mNil))))))
    (mSeq (mIfS (mOr (mTest (mOp gLt (mCB (f1 false kMin) (mCons (mVar 6) mNil)) (mVar 4))) (mAnd (mTest (mOp gLt (mCB (f1 true kLen) (mCons (mVar 3) mNil)) (mC (.int 6)))) (mTest (mOp gNe (mCB (f1 false kMin) (mCons (mVar 6) mNil)) (mVar 4)))))
      (mRet (mC (.bl false)))
      mNext)
    (mSeq (mSet 7 (mNew (mComp 3 [] (mItT (mVar 3)) (nTup 3 (nCons (nName 0) (nCons (nName 1) (nCons (nName 2) nNil)))) mYes (mAndV (mOp gLe (mVar 0) (mC (.int 20))) (mOp gLe (mOp gIx (mVar 2) (mC (.int 1))) (mC (.int 9)))))))
    (mIfS (mTest (mOp (gIn true) (mC (.bl false)) (mVar 7)))
      (mIfS (mTest (mOp gNe (mCallW 0 F_worth (mCons (mVar 3) (mCons (mCallW 0 F_ends_of (mCons (mVar 3) (mCons (mCallW 0 F_run (mCons (mVar 3) (mCons (mVar 5) mNil))) mNil))) (mCons (mC (.str "sum")) mNil)))) (mVar 4)))
      (mRet (mC (.bl false)))
      mNext)
      mNext))))))))))
    (mRet (mC (.bl true)))))
noncomputable def F_law : List D -> Hd -> Option (D × Hd) := mkF 1 8 m_law
section
variable {P : Program} {w : World} {K : PySem.W.Frag} {mg : Str -> Option Value} {base : Heap}
theorem ok_common_divisor {f_common_divisor : Addr} {d_common_divisor : FuncData} (DA : DefAt K mg "common_divisor" s_common_divisor f_common_divisor d_common_divisor ["one", "other"])  (B : BltA mg) : FnOk P w K mg base CX0 1 f_common_divisor d_common_divisor ["one", "other"] (spF K 2 F_common_divisor) := by
  refine ok_data (N := ["one", "other"]) (m := m_common_divisor) DA sc_common_divisor fun cdv A outer s H E hr => ?_
  exact ⟨_, (qss_cons K (qs_set K (i := 0) sc_common_divisor.nd rfl (by first | exact Or.inl rfl | exact Or.inr rfl) (qe_cb K call_abs rf_abs B.abs L2.bt_abs (qa_cons K (qv K 0) (qa_nil K))))
    (qss_cons K (qs_while K (qt_cmp K ((op_ne).or (op_neDK K hr.units)) (rb_else rb_neS rb_neP) (qv K 1) (qe_int K))
      (qss_one K (qs_par K (i := 0) (j := 1) rfl sc_common_divisor.nd rfl rfl (by decide) rfl rfl (qa_cons K (qv K 1) (qa_cons K (qe_op K op_mod rb_mod (qv K 0) (qv K 1)) (qa_nil K))))))
    (qss_one K (qs_ret K (qv K 0)))))⟩
theorem ok_fraction {f_fraction f_common_divisor : Addr} {d_fraction d_common_divisor : FuncData} (DA : DefAt K mg "fraction" s_fraction f_fraction d_fraction ["top", "bottom"]) (D_common_divisor : DefAt K mg "common_divisor" s_common_divisor f_common_divisor d_common_divisor ["one", "other"]) (G_common_divisor : FnOk P w K mg base CX0 1 f_common_divisor d_common_divisor ["one", "other"] (spF K 2 F_common_divisor)) (B : BltA mg) : FnOk P w K mg base CX0 2 f_fraction d_fraction ["top", "bottom"] (spF K 2 F_fraction) := by
  refine ok_data (N := ["top", "bottom", "shared"]) (m := m_fraction) DA sc_fraction fun cdv A outer s H E hr => ?_
  exact ⟨_, (qss_cons K (qs_if K (qt_cmp K op_lt rb_lt (qv K 1) (qe_int K))
      (qss_one K (qs_par K (i := 0) (j := 1) rfl sc_fraction.nd rfl rfl (by decide) rfl rfl (qa_cons K (qe_neg K (qv K 0)) (qa_cons K (qe_neg K (qv K 1)) (qa_nil K)))))
      (qss_nil K))
    (qss_cons K (qs_set K (i := 2) sc_fraction.nd rfl (by first | exact Or.inl rfl | exact Or.inr rfl) (qe_callW K 0 G_common_divisor hr D_common_divisor (qa_cons K (qv K 0) (qa_cons K (qv K 1) (qa_nil K))) mkF_len))
    (qss_one K (qs_ret K (qe_tup K (qa_cons K (qe_op K op_fdiv rb_fdiv (qv K 0) (qv K 2)) (qa_cons K (qe_op K op_fdiv rb_fdiv (qv K 1) (qv K 2)) (qa_nil K))))))))⟩
theorem ok_less {f_less : Addr} {d_less : FuncData} (DA : DefAt K mg "less" s_less f_less d_less ["one", "other"])  (B : BltA mg) : FnOk P w K mg base CX0 1 f_less d_less ["one", "other"] (spF K 2 F_less) := by
  refine ok_data (N := ["one", "other"]) (m := m_less) DA sc_less fun cdv A outer s H E hr => ?_
  exact ⟨_, (qss_one K (qs_ret K (qe_cmp K op_lt rb_lt (qe_op K op_mul rb_mul (qe_ix K (qv K 0) (qe_int K)) (qe_ix K (qv K 1) (qe_int K))) (qe_op K op_mul rb_mul (qe_ix K (qv K 1) (qe_int K)) (qe_ix K (qv K 0) (qe_int K))))))⟩
theorem ok_falling {f_falling f_less : Addr} {d_falling d_less : FuncData} (DA : DefAt K mg "falling" s_falling f_falling d_falling ["ratios"]) (D_less : DefAt K mg "less" s_less f_less d_less ["one", "other"]) (G_less : FnOk P w K mg base CX0 1 f_less d_less ["one", "other"] (spF K 2 F_less)) (B : BltA mg) : FnOk P w K mg base CX0 2 f_falling d_falling ["ratios"] (spF K 1 F_falling) := by
  refine ok_data (N := ["ratios", "row", "k", "ratio"]) (m := m_falling) DA sc_falling fun cdv A outer s H E hr => ?_
  exact ⟨_, (qss_cons K (qs_set K (i := 1) sc_falling.nd rfl (by first | exact Or.inl rfl | exact Or.inr rfl) (qe_new K (qn_lst K (qa_nil K))))
    (qss_cons K (qs_for K rfl (qi_enum K B.enumerate (qr_list K (qv K 0))) (qg_tup K (n := 2) rfl (qgs_cons K (qg_name K (i := 2) sc_falling.nd rfl (by first | exact Or.inl rfl | exact Or.inr rfl)) (qgs_cons K (qg_name K (i := 3) sc_falling.nd rfl (by first | exact Or.inl rfl | exact Or.inr rfl)) (qgs_nil K))))
      (qss_one K (qs_expr K (qe_mt K PySem.F.slot_list_insert PySem.F.type_list_insert mt_insert rm_insert (qv K 1) (qa_cons K (qe_hb K (call_lenK K) rg_len B.len L2.bt_len (qn_comp K (loc := ["j"]) (fr := ["ratios", "ratio"]) (ix := [0, 3]) rfl ⟨rfl, by decide +kernel, rfl, rfl, rfl, by decide +kernel⟩ (qi_list K (qv K 1)) (fun _ _ _ => (qg_name K (i := 0) (show (["j", "ratios", "ratio"] : List Str).Nodup from by decide +kernel) rfl (by first | exact Or.inl rfl | exact Or.inr rfl))) (fun _ _ _ => (qf_one K (qt_not K (qt_truth K (qe_callW K 0 G_less hr D_less (qa_cons K (qe_ix K (qv K 1) (qv K 0)) (qa_cons K (qv K 2) (qa_nil K))) mkF_len))))) (fun _ _ _ => (qv K 0)))) (qa_cons K (qv K 2) (qa_nil K)))))))
    (qss_one K (qs_ret K (qv K 1)))))⟩
theorem ok_steps_at {f_steps_at : Addr} {d_steps_at : FuncData} (DA : DefAt K mg "steps_at" s_steps_at f_steps_at d_steps_at ["rows", "t"])  (B : BltA mg) : FnOk P w K mg base CX0 1 f_steps_at d_steps_at ["rows", "t"] (spF K 2 F_steps_at) := by
  refine ok_data (N := ["rows", "t", "told", "begin", "amount"]) (m := m_steps_at) DA sc_steps_at fun cdv A outer s H E hr => ?_
  exact ⟨_, (qss_cons K (qs_set K (i := 2) sc_steps_at.nd rfl (by first | exact Or.inl rfl | exact Or.inr rfl) (qe_int K))
    (qss_cons K (qs_for K rfl (qi_tup K (qv K 0)) (qg_tup K (n := 2) rfl (qgs_cons K (qg_name K (i := 3) sc_steps_at.nd rfl (by first | exact Or.inl rfl | exact Or.inr rfl)) (qgs_cons K (qg_name K (i := 4) sc_steps_at.nd rfl (by first | exact Or.inl rfl | exact Or.inr rfl)) (qgs_nil K))))
      (qss_cons K (qs_if K (qt_cmp K op_gt rb_gt (qv K 3) (qv K 1))
      (qss_one K (qs_ret K (qv K 2)))
      (qss_nil K))
    (qss_one K (qs_set K (i := 2) sc_steps_at.nd rfl (by first | exact Or.inl rfl | exact Or.inr rfl) (qv K 4)))))
    (qss_one K (qs_ret K (qv K 2)))))⟩
theorem ok_cost_at {f_cost_at f_steps_at : Addr} {d_cost_at d_steps_at : FuncData} (DA : DefAt K mg "cost_at" s_cost_at f_cost_at d_cost_at ["cost", "t"]) (D_steps_at : DefAt K mg "steps_at" s_steps_at f_steps_at d_steps_at ["rows", "t"]) (G_steps_at : FnOk P w K mg base CX0 1 f_steps_at d_steps_at ["rows", "t"] (spF K 2 F_steps_at)) (B : BltA mg) : FnOk P w K mg base CX0 2 f_cost_at d_cost_at ["cost", "t"] (spF K 2 F_cost_at) := by
  refine ok_data (N := ["cost", "t", "word", "above"]) (m := m_cost_at) DA sc_cost_at fun cdv A outer s H E hr => ?_
  exact ⟨_, (qss_cons K (qs_set K (i := 2) sc_cost_at.nd rfl (by first | exact Or.inl rfl | exact Or.inr rfl) (qe_ix K (qv K 0) (qe_int K)))
    (qss_cons K (qs_if K (qt_cmp K ((op_eq).or (op_eqDK K hr.units)) (rb_else rb_eqS rb_eqP) (qv K 2) (qe_str K))
      (qss_one K (qs_ret K (qe_callW K 0 G_steps_at hr D_steps_at (qa_cons K (qe_ix K (qv K 0) (qe_int K)) (qa_cons K (qv K 1) (qa_nil K))) mkF_len)))
      (qss_nil K))
    (qss_cons K (qs_if K (qt_cmp K ((op_eq).or (op_eqDK K hr.units)) (rb_else rb_eqS rb_eqP) (qv K 2) (qe_str K))
      (qss_one K (qs_ret K (qe_op K op_mul rb_mul (qe_ix K (qv K 0) (qe_int K)) (qv K 1))))
      (qss_nil K))
    (qss_cons K (qs_set K (i := 3) sc_cost_at.nd rfl (by first | exact Or.inl rfl | exact Or.inr rfl) (qe_op K op_sub rb_sub (qv K 1) (qe_ix K (qv K 0) (qe_int K))))
    (qss_cons K (qs_if K (qt_cmp K ((op_eq).or (op_eqDK K hr.units)) (rb_else rb_eqS rb_eqP) (qv K 2) (qe_str K))
      (qss_one K (qs_ret K (qv K 3)))
      (qss_nil K))
    (qss_cons K (qs_if K (qt_cmp K op_le rb_le (qv K 3) (qe_int K))
      (qss_one K (qs_ret K (qe_int K)))
      (qss_nil K))
    (qss_cons K (qs_if K (qt_cmp K ((op_eq).or (op_eqDK K hr.units)) (rb_else rb_eqS rb_eqP) (qv K 2) (qe_str K))
      (qss_one K (qs_ret K (qe_op K op_mul rb_mul (qe_ix K (qv K 0) (qe_int K)) (qv K 3))))
      (qss_nil K))
    (qss_one K (qs_ret K (qe_ix K (qv K 0) (qe_int K)))))))))))⟩
theorem ok_length_of {f_length_of : Addr} {d_length_of : FuncData} (DA : DefAt K mg "length_of" s_length_of f_length_of d_length_of ["works", "some"])  (B : BltA mg) : FnOk P w K mg base CX0 1 f_length_of d_length_of ["works", "some"] (spF K 2 F_length_of) := by
  refine ok_data (N := ["works", "some"]) (m := m_length_of) DA sc_length_of fun cdv A outer s H E hr => ?_
  exact ⟨_, (qss_one K (qs_ret K (qe_hb K ((call_sumK K rfl).or (call_sumTK K rfl)) rg_sum B.sum L2.bt_sum (qn_comp K (loc := ["j"]) (fr := ["works"]) (ix := [0]) rfl ⟨rfl, by decide +kernel, rfl, rfl, rfl, by decide +kernel⟩ (qi_tup K (qv K 1)) (fun _ _ _ => (qg_name K (i := 0) (show (["j", "works"] : List Str).Nodup from by decide +kernel) rfl (by first | exact Or.inl rfl | exact Or.inr rfl))) (fun _ _ _ => (qf_nil K)) (fun _ _ _ => (qe_ix K (qe_ix K (qv K 1) (qv K 0)) (qe_int K)))))))⟩
theorem ok_same_coming {f_same_coming : Addr} {d_same_coming : FuncData} (DA : DefAt K mg "same_coming" s_same_coming f_same_coming d_same_coming ["works"])  (B : BltA mg) : FnOk P w K mg base CX0 1 f_same_coming d_same_coming ["works"] (spF K 1 F_same_coming) := by
  refine ok_data (N := ["works", "coming"]) (m := m_same_coming) DA sc_same_coming fun cdv A outer s H E hr => ?_
  exact ⟨_, (qss_cons K (qs_set K (i := 1) sc_same_coming.nd rfl (by first | exact Or.inl rfl | exact Or.inr rfl) (qe_ix K (qe_ix K (qv K 0) (qe_int K)) (qe_int K)))
    (qss_cons K (qs_if K (qt_truth K (qe_hb K (call_allK K rfl) rg_all B.all L2.bt_all (qn_comp K (loc := ["work"]) (fr := ["coming"]) (ix := [1]) rfl ⟨rfl, by decide +kernel, rfl, rfl, rfl, by decide +kernel⟩ (qi_tup K (qv K 0)) (fun _ _ _ => (qg_name K (i := 0) (show (["work", "coming"] : List Str).Nodup from by decide +kernel) rfl (by first | exact Or.inl rfl | exact Or.inr rfl))) (fun _ _ _ => (qf_nil K)) (fun _ _ _ => (qe_cmp K ((op_eq).or (op_eqDK K hr.units)) (rb_else rb_eqS rb_eqP) (qe_ix K (qv K 0) (qe_int K)) (qv K 1))))))
      (qss_one K (qs_ret K (qv K 1)))
      (qss_nil K))
    (qss_one K (qs_ret K (qe_non K)))))⟩
theorem ok_one_coming {f_one_coming f_same_coming : Addr} {d_one_coming d_same_coming : FuncData} (DA : DefAt K mg "one_coming" s_one_coming f_one_coming d_one_coming ["works"]) (D_same_coming : DefAt K mg "same_coming" s_same_coming f_same_coming d_same_coming ["works"]) (G_same_coming : FnOk P w K mg base CX0 1 f_same_coming d_same_coming ["works"] (spF K 1 F_same_coming)) (B : BltA mg) : FnOk P w K mg base CX0 2 f_one_coming d_one_coming ["works"] (spF K 1 F_one_coming) := by
  refine ok_data (N := ["works", "coming"]) (m := m_one_coming) DA sc_one_coming fun cdv A outer s H E hr => ?_
  exact ⟨_, (qss_cons K (qs_set K (i := 1) sc_one_coming.nd rfl (by first | exact Or.inl rfl | exact Or.inr rfl) (qe_callW K 0 G_same_coming hr D_same_coming (qa_cons K (qv K 0) (qa_nil K)) mkF_len))
    (qss_cons K (qs_if K (qt_isN K (qv K 1))
      (qss_one K (qs_never K))
      (qss_nil K))
    (qss_one K (qs_ret K (qv K 1)))))⟩
theorem ok_refuse_other_costs {f_refuse_other_costs : Addr} {d_refuse_other_costs : FuncData} (DA : DefAt K mg "refuse_other_costs" s_refuse_other_costs f_refuse_other_costs d_refuse_other_costs ["works", "word"])  (B : BltA mg) : FnOk P w K mg base CX0 1 f_refuse_other_costs d_refuse_other_costs ["works", "word"] (spF K 2 F_refuse_other_costs) := by
  refine ok_data (N := ["works", "word"]) (m := m_refuse_other_costs) DA sc_refuse_other_costs fun cdv A outer s H E hr => ?_
  exact ⟨_, (qss_one K (qs_if K (qt_truth K (qe_hb K (call_anyK K rfl) rg_any B.any L2.bt_any (qn_comp K (loc := ["work"]) (fr := ["word"]) (ix := [1]) rfl ⟨rfl, by decide +kernel, rfl, rfl, rfl, by decide +kernel⟩ (qi_tup K (qv K 0)) (fun _ _ _ => (qg_name K (i := 0) (show (["work", "word"] : List Str).Nodup from by decide +kernel) rfl (by first | exact Or.inl rfl | exact Or.inr rfl))) (fun _ _ _ => (qf_nil K)) (fun _ _ _ => (qe_cmp K ((op_ne).or (op_neDK K hr.units)) (rb_else rb_neS rb_neP) (qe_ix K (qe_ix K (qv K 0) (qe_int K)) (qe_int K)) (qv K 1))))))
      (qss_one K (qs_never K))
      (qss_nil K)))⟩
theorem ok_weight_of {f_weight_of : Addr} {d_weight_of : FuncData} (DA : DefAt K mg "weight_of" s_weight_of f_weight_of d_weight_of ["work"])  (B : BltA mg) : FnOk P w K mg base CX0 1 f_weight_of d_weight_of ["work"] (spF K 1 F_weight_of) := by
  refine ok_data (N := ["work"]) (m := m_weight_of) DA sc_weight_of fun cdv A outer s H E hr => ?_
  exact ⟨_, (qss_one K (qs_ret K (qe_ix K (qe_ix K (qv K 0) (qe_int K)) (qe_neg K (qe_int K)))))⟩
theorem ok_weighted_coming {f_weighted_coming f_one_coming f_refuse_other_costs : Addr} {d_weighted_coming d_one_coming d_refuse_other_costs : FuncData} (DA : DefAt K mg "weighted_coming" s_weighted_coming f_weighted_coming d_weighted_coming ["works"]) (D_one_coming : DefAt K mg "one_coming" s_one_coming f_one_coming d_one_coming ["works"]) (G_one_coming : FnOk P w K mg base CX0 2 f_one_coming d_one_coming ["works"] (spF K 1 F_one_coming)) (D_refuse_other_costs : DefAt K mg "refuse_other_costs" s_refuse_other_costs f_refuse_other_costs d_refuse_other_costs ["works", "word"]) (G_refuse_other_costs : FnOk P w K mg base CX0 1 f_refuse_other_costs d_refuse_other_costs ["works", "word"] (spF K 2 F_refuse_other_costs)) (B : BltA mg) : FnOk P w K mg base CX0 3 f_weighted_coming d_weighted_coming ["works"] (spF K 1 F_weighted_coming) := by
  refine ok_data (N := ["works", "coming"]) (m := m_weighted_coming) DA sc_weighted_coming fun cdv A outer s H E hr => ?_
  exact ⟨_, (qss_cons K (qs_set K (i := 1) sc_weighted_coming.nd rfl (by first | exact Or.inl rfl | exact Or.inr rfl) (qe_callW K 0 G_one_coming hr D_one_coming (qa_cons K (qv K 0) (qa_nil K)) mkF_len))
    (qss_cons K (qs_expr K (qe_callW K 0 G_refuse_other_costs hr D_refuse_other_costs (qa_cons K (qv K 0) (qa_cons K (qe_str K) (qa_nil K))) mkF_len))
    (qss_one K (qs_ret K (qv K 1)))))⟩
theorem ok_ratio_of {f_ratio_of f_fraction f_length_of f_weight_of : Addr} {d_ratio_of d_fraction d_length_of d_weight_of : FuncData} (DA : DefAt K mg "ratio_of" s_ratio_of f_ratio_of d_ratio_of ["works", "some"]) (D_fraction : DefAt K mg "fraction" s_fraction f_fraction d_fraction ["top", "bottom"]) (G_fraction : FnOk P w K mg base CX0 2 f_fraction d_fraction ["top", "bottom"] (spF K 2 F_fraction)) (D_length_of : DefAt K mg "length_of" s_length_of f_length_of d_length_of ["works", "some"]) (G_length_of : FnOk P w K mg base CX0 1 f_length_of d_length_of ["works", "some"] (spF K 2 F_length_of)) (D_weight_of : DefAt K mg "weight_of" s_weight_of f_weight_of d_weight_of ["work"]) (G_weight_of : FnOk P w K mg base CX0 1 f_weight_of d_weight_of ["work"] (spF K 1 F_weight_of)) (B : BltA mg) : FnOk P w K mg base CX0 3 f_ratio_of d_ratio_of ["works", "some"] (spF K 2 F_ratio_of) := by
  refine ok_data (N := ["works", "some"]) (m := m_ratio_of) DA sc_ratio_of fun cdv A outer s H E hr => ?_
  exact ⟨_, (qss_one K (qs_ret K (qe_callW K 0 G_fraction hr D_fraction (qa_cons K (qe_hb K ((call_sumK K rfl).or (call_sumTK K rfl)) rg_sum B.sum L2.bt_sum (qn_comp K (loc := ["j"]) (fr := ["works"]) (ix := [0]) rfl ⟨rfl, by decide +kernel, rfl, rfl, rfl, by decide +kernel⟩ (qi_tup K (qv K 1)) (fun _ _ _ => (qg_name K (i := 0) (show (["j", "works"] : List Str).Nodup from by decide +kernel) rfl (by first | exact Or.inl rfl | exact Or.inr rfl))) (fun _ _ _ => (qf_nil K)) (fun _ _ _ => (qe_callW K 0 G_weight_of hr D_weight_of (qa_cons K (qe_ix K (qv K 1) (qv K 0)) (qa_nil K)) mkF_len)))) (qa_cons K (qe_callW K 0 G_length_of hr D_length_of (qa_cons K (qv K 0) (qa_cons K (qv K 1) (qa_nil K))) mkF_len) (qa_nil K))) mkF_len)))⟩
theorem ok_ratio_order {f_ratio_order f_falling f_weighted_coming f_ratio_of : Addr} {d_ratio_order d_falling d_weighted_coming d_ratio_of : FuncData} (DA : DefAt K mg "ratio_order" s_ratio_order f_ratio_order d_ratio_order ["works"]) (D_falling : DefAt K mg "falling" s_falling f_falling d_falling ["ratios"]) (G_falling : FnOk P w K mg base CX0 2 f_falling d_falling ["ratios"] (spF K 1 F_falling)) (D_weighted_coming : DefAt K mg "weighted_coming" s_weighted_coming f_weighted_coming d_weighted_coming ["works"]) (G_weighted_coming : FnOk P w K mg base CX0 3 f_weighted_coming d_weighted_coming ["works"] (spF K 1 F_weighted_coming)) (D_ratio_of : DefAt K mg "ratio_of" s_ratio_of f_ratio_of d_ratio_of ["works", "some"]) (G_ratio_of : FnOk P w K mg base CX0 3 f_ratio_of d_ratio_of ["works", "some"] (spF K 2 F_ratio_of)) (B : BltA mg) : FnOk P w K mg base CX0 4 f_ratio_order d_ratio_order ["works"] (spF K 1 F_ratio_order) := by
  refine ok_data (N := ["works"]) (m := m_ratio_order) DA sc_ratio_order fun cdv A outer s H E hr => ?_
  exact ⟨_, (qss_cons K (qs_expr K (qe_callW K 0 G_weighted_coming hr D_weighted_coming (qa_cons K (qv K 0) (qa_nil K)) mkF_len))
    (qss_one K (qs_ret K (qe_ct K (call_tupleK K) (rf_1 rg_tuple) B.tuple L2.bt_tuple (qa_cons K (qe_callG K G_falling hr D_falling (qa_cons K (qe_new K (qn_comp K (loc := ["j"]) (fr := ["works"]) (ix := [0]) rfl ⟨rfl, by decide +kernel, rfl, rfl, rfl, by decide +kernel⟩ (qi_rng1 K B.range (qa_cons K (qe_cb K (call_lenK K) (rf_1 rg_len) B.len L2.bt_len (qa_cons K (qv K 0) (qa_nil K))) (qa_nil K))) (fun _ _ _ => (qg_name K (i := 0) (show (["j", "works"] : List Str).Nodup from by decide +kernel) rfl (by first | exact Or.inl rfl | exact Or.inr rfl))) (fun _ _ _ => (qf_nil K)) (fun _ _ _ => (qe_callW K 0 G_ratio_of hr D_ratio_of (qa_cons K (qv K 1) (qa_cons K (qe_tup K (qa_cons K (qv K 0) (qa_nil K))) (qa_nil K))) mkF_len)))) (qa_nil K)) mkF_len) (qa_nil K))))))⟩
theorem ok_pair_sum_of {f_pair_sum_of : Addr} {d_pair_sum_of : FuncData} (DA : DefAt K mg "pair_sum_of" s_pair_sum_of f_pair_sum_of d_pair_sum_of ["coming", "lengths", "weights"])  (B : BltA mg) : FnOk P w K mg base CX0 1 f_pair_sum_of d_pair_sum_of ["coming", "lengths", "weights"] (spF K 3 F_pair_sum_of) := by
  refine ok_data (N := ["coming", "lengths", "weights", "alone", "pairs"]) (m := m_pair_sum_of) DA sc_pair_sum_of fun cdv A outer s H E hr => ?_
  exact ⟨_, (qss_cons K (qs_set K (i := 3) sc_pair_sum_of.nd rfl (by first | exact Or.inl rfl | exact Or.inr rfl) (qe_hb K ((call_sumK K rfl).or (call_sumTK K rfl)) rg_sum B.sum L2.bt_sum (qn_comp K (loc := ["length", "weight"]) (fr := ["coming"]) (ix := [0]) rfl ⟨rfl, by decide +kernel, rfl, rfl, rfl, by decide +kernel⟩ (qi_zip K B.zip (qr_list K (qv K 1)) (qr_list K (qv K 2))) (fun _ _ _ => (qg_tup K (n := 2) rfl (qgs_cons K (qg_name K (i := 0) (show (["length", "weight", "coming"] : List Str).Nodup from by decide +kernel) rfl (by first | exact Or.inl rfl | exact Or.inr rfl)) (qgs_cons K (qg_name K (i := 1) (show (["length", "weight", "coming"] : List Str).Nodup from by decide +kernel) rfl (by first | exact Or.inl rfl | exact Or.inr rfl)) (qgs_nil K))))) (fun _ _ _ => (qf_nil K)) (fun _ _ _ => (qe_op K op_mul rb_mul (qv K 1) (qe_op K ((op_add).or (op_catTK K)) (rb_else rb_add rb_catT) (qv K 2) (qv K 0)))))))
    (qss_cons K (by first | exact qs_setC2 K (i := 4) (loc := ["j", "i"]) (fr := []) (ix := []) sc_pair_sum_of.nd rfl rfl rfl ⟨rfl, by decide +kernel, rfl, rfl, rfl, by decide +kernel⟩ (qi_rng1 K B.range (qa_cons K (qe_cb K (call_lenK K) (rf_1 rg_len) B.len L2.bt_len (qa_cons K (qv K 1) (qa_nil K))) (qa_nil K))) (fun _ _ _ => (qg_name K (i := 0) (show (["j", "i"] : List Str).Nodup from by decide +kernel) rfl (by first | exact Or.inl rfl | exact Or.inr rfl))) (fun _ _ _ => (qf_nil K)) (fun _ _ _ => (qi_rng1 K B.range (qa_cons K (qv K 0) (qa_nil K)))) (fun _ _ _ => (qg_name K (i := 1) (show (["j", "i"] : List Str).Nodup from by decide +kernel) rfl (by first | exact Or.inl rfl | exact Or.inr rfl))) (fun _ _ _ => (qf_nil K)) (fun _ _ _ => (qe_tup K (qa_cons K (qv K 1) (qa_cons K (qv K 0) (qa_nil K))))) | exact qs_set K (i := 4) sc_pair_sum_of.nd rfl (by first | exact Or.inl rfl | exact Or.inr rfl) (qe_comp2 K (loc := ["j", "i"]) (fr := []) (ix := []) rfl ⟨rfl, by decide +kernel, rfl, rfl, rfl, by decide +kernel⟩ (qi_rng1 K B.range (qa_cons K (qe_cb K (call_lenK K) (rf_1 rg_len) B.len L2.bt_len (qa_cons K (qv K 1) (qa_nil K))) (qa_nil K))) (fun _ _ _ => (qg_name K (i := 0) (show (["j", "i"] : List Str).Nodup from by decide +kernel) rfl (by first | exact Or.inl rfl | exact Or.inr rfl))) (fun _ _ _ => (qf_nil K)) (fun _ _ _ => (qi_rng1 K B.range (qa_cons K (qv K 0) (qa_nil K)))) (fun _ _ _ => (qg_name K (i := 1) (show (["j", "i"] : List Str).Nodup from by decide +kernel) rfl (by first | exact Or.inl rfl | exact Or.inr rfl))) (fun _ _ _ => (qf_nil K)) (fun _ _ _ => (qe_tup K (qa_cons K (qv K 1) (qa_cons K (qv K 0) (qa_nil K)))))))
    (qss_one K (qs_ret K (qe_op K ((op_add).or (op_catTK K)) (rb_else rb_add rb_catT) (qv K 3) (qe_hb K ((call_sumK K rfl).or (call_sumTK K rfl)) rg_sum B.sum L2.bt_sum (qn_comp K (loc := ["i", "j"]) (fr := ["lengths", "weights"]) (ix := [1, 2]) rfl ⟨rfl, by decide +kernel, rfl, rfl, rfl, by decide +kernel⟩ (qi_list K (qv K 4)) (fun _ _ _ => (qg_tup K (n := 2) rfl (qgs_cons K (qg_name K (i := 0) (show (["i", "j", "lengths", "weights"] : List Str).Nodup from by decide +kernel) rfl (by first | exact Or.inl rfl | exact Or.inr rfl)) (qgs_cons K (qg_name K (i := 1) (show (["i", "j", "lengths", "weights"] : List Str).Nodup from by decide +kernel) rfl (by first | exact Or.inl rfl | exact Or.inr rfl)) (qgs_nil K))))) (fun _ _ _ => (qf_nil K)) (fun _ _ _ => (qe_cb K (call_min2 rfl) rf_min2 B.min L2.bt_min (qa_cons K (qe_op K op_mul rb_mul (qe_ix K (qv K 2) (qv K 0)) (qe_ix K (qv K 3) (qv K 1))) (qa_cons K (qe_op K op_mul rb_mul (qe_ix K (qv K 2) (qv K 1)) (qe_ix K (qv K 3) (qv K 0))) (qa_nil K))))))))))))⟩
theorem ok_pair_sum {f_pair_sum f_weight_of f_weighted_coming f_pair_sum_of : Addr} {d_pair_sum d_weight_of d_weighted_coming d_pair_sum_of : FuncData} (DA : DefAt K mg "pair_sum" s_pair_sum f_pair_sum d_pair_sum ["works"]) (D_weight_of : DefAt K mg "weight_of" s_weight_of f_weight_of d_weight_of ["work"]) (G_weight_of : FnOk P w K mg base CX0 1 f_weight_of d_weight_of ["work"] (spF K 1 F_weight_of)) (D_weighted_coming : DefAt K mg "weighted_coming" s_weighted_coming f_weighted_coming d_weighted_coming ["works"]) (G_weighted_coming : FnOk P w K mg base CX0 3 f_weighted_coming d_weighted_coming ["works"] (spF K 1 F_weighted_coming)) (D_pair_sum_of : DefAt K mg "pair_sum_of" s_pair_sum_of f_pair_sum_of d_pair_sum_of ["coming", "lengths", "weights"]) (G_pair_sum_of : FnOk P w K mg base CX0 1 f_pair_sum_of d_pair_sum_of ["coming", "lengths", "weights"] (spF K 3 F_pair_sum_of)) (B : BltA mg) : FnOk P w K mg base CX0 4 f_pair_sum d_pair_sum ["works"] (spF K 1 F_pair_sum) := by
  refine ok_data (N := ["works", "coming"]) (m := m_pair_sum) DA sc_pair_sum fun cdv A outer s H E hr => ?_
  exact ⟨_, (qss_cons K (qs_set K (i := 1) sc_pair_sum.nd rfl (by first | exact Or.inl rfl | exact Or.inr rfl) (qe_callW K 0 G_weighted_coming hr D_weighted_coming (qa_cons K (qv K 0) (qa_nil K)) mkF_len))
    (qss_one K (qs_ret K (qe_callG K G_pair_sum_of hr D_pair_sum_of (qa_cons K (qv K 1) (qa_cons K (qe_new K (qn_comp K (loc := ["work"]) (fr := []) (ix := []) rfl ⟨rfl, by decide +kernel, rfl, rfl, rfl, by decide +kernel⟩ (qi_tup K (qv K 0)) (fun _ _ _ => (qg_name K (i := 0) (show (["work"] : List Str).Nodup from by decide +kernel) rfl (by first | exact Or.inl rfl | exact Or.inr rfl))) (fun _ _ _ => (qf_nil K)) (fun _ _ _ => (qe_ix K (qv K 0) (qe_int K))))) (qa_cons K (qe_new K (qn_comp K (loc := ["work"]) (fr := []) (ix := []) rfl ⟨rfl, by decide +kernel, rfl, rfl, rfl, by decide +kernel⟩ (qi_tup K (qv K 0)) (fun _ _ _ => (qg_name K (i := 0) (show (["work"] : List Str).Nodup from by decide +kernel) rfl (by first | exact Or.inl rfl | exact Or.inr rfl))) (fun _ _ _ => (qf_nil K)) (fun _ _ _ => (qe_callW K 0 G_weight_of hr D_weight_of (qa_cons K (qv K 0) (qa_nil K)) mkF_len)))) (qa_nil K)))) mkF_len))))⟩
theorem ok_run {f_run : Addr} {d_run : FuncData} (DA : DefAt K mg "run" s_run f_run d_run ["works", "order"])  (B : BltA mg) : FnOk P w K mg base CX0 1 f_run d_run ["works", "order"] (spF K 2 F_run) := by
  refine ok_data (N := ["works", "order", "pieces", "end", "work", "length", "coming", "cost", "begin"]) (m := m_run) DA sc_run fun cdv A outer s H E hr => ?_
  exact ⟨_, (qss_cons K (qs_set K (i := 2) sc_run.nd rfl (by first | exact Or.inl rfl | exact Or.inr rfl) (qe_new K (qn_lst K (qa_nil K))))
    (qss_cons K (qs_set K (i := 3) sc_run.nd rfl (by first | exact Or.inl rfl | exact Or.inr rfl) (qe_int K))
    (qss_cons K (qs_for K rfl (qi_tup K (qv K 1)) (qg_name K (i := 4) sc_run.nd rfl (by first | exact Or.inl rfl | exact Or.inr rfl))
      (qss_cons K (qs_asg K (qe_ix K (qv K 0) (qv K 4)) (qg_tup K (n := 3) rfl (qgs_cons K (qg_name K (i := 5) sc_run.nd rfl (by first | exact Or.inl rfl | exact Or.inr rfl)) (qgs_cons K (qg_name K (i := 6) sc_run.nd rfl (by first | exact Or.inl rfl | exact Or.inr rfl)) (qgs_cons K (qg_name K (i := 7) sc_run.nd rfl (by first | exact Or.inl rfl | exact Or.inr rfl)) (qgs_nil K))))))
    (qss_cons K (qs_set K (i := 8) sc_run.nd rfl (by first | exact Or.inl rfl | exact Or.inr rfl) (qe_cb K (call_max2 rfl) rf_max2 B.max L2.bt_max (qa_cons K (qv K 6) (qa_cons K (qv K 3) (qa_nil K)))))
    (qss_cons K (qs_set K (i := 3) sc_run.nd rfl (by first | exact Or.inl rfl | exact Or.inr rfl) (qe_op K ((op_add).or (op_catTK K)) (rb_else rb_add rb_catT) (qv K 8) (qv K 5)))
    (qss_one K (qs_expr K (qe_mt K PySem.F.slot_list_append PySem.F.type_list_append mt_append rm_append (qv K 2) (qa_cons K (qe_tup K (qa_cons K (qv K 4) (qa_cons K (qv K 8) (qa_cons K (qv K 3) (qa_nil K))))) (qa_nil K)))))))))
    (qss_one K (qs_ret K (qe_ct K (call_tupleK K) (rf_1 rg_tuple) B.tuple L2.bt_tuple (qa_cons K (qv K 2) (qa_nil K))))))))⟩
theorem ok_ends_of {f_ends_of : Addr} {d_ends_of : FuncData} (DA : DefAt K mg "ends_of" s_ends_of f_ends_of d_ends_of ["works", "plan"])  (B : BltA mg) : FnOk P w K mg base CX0 1 f_ends_of d_ends_of ["works", "plan"] (spF K 2 F_ends_of) := by
  refine ok_data (N := ["works", "plan", "ends", "work", "begin", "end"]) (m := m_ends_of) DA sc_ends_of fun cdv A outer s H E hr => ?_
  exact ⟨_, (qss_cons K (by first | exact qs_setC K (i := 2) (loc := ["work"]) (fr := []) (ix := []) sc_ends_of.nd rfl rfl rfl ⟨rfl, by decide +kernel, rfl, rfl, rfl, by decide +kernel⟩ (qi_tup K (qv K 0)) (fun _ _ _ => (qg_name K (i := 0) (show (["work"] : List Str).Nodup from by decide +kernel) rfl (by first | exact Or.inl rfl | exact Or.inr rfl))) (fun _ _ _ => (qf_nil K)) (fun _ _ _ => (qe_int K)) | exact qs_set K (i := 2) sc_ends_of.nd rfl (by first | exact Or.inl rfl | exact Or.inr rfl) (qe_new K (qn_comp K (loc := ["work"]) (fr := []) (ix := []) rfl ⟨rfl, by decide +kernel, rfl, rfl, rfl, by decide +kernel⟩ (qi_tup K (qv K 0)) (fun _ _ _ => (qg_name K (i := 0) (show (["work"] : List Str).Nodup from by decide +kernel) rfl (by first | exact Or.inl rfl | exact Or.inr rfl))) (fun _ _ _ => (qf_nil K)) (fun _ _ _ => (qe_int K)))))
    (qss_cons K (qs_for K rfl (qi_tup K (qv K 1)) (qg_tup K (n := 3) rfl (qgs_cons K (qg_name K (i := 3) sc_ends_of.nd rfl (by first | exact Or.inl rfl | exact Or.inr rfl)) (qgs_cons K (qg_name K (i := 4) sc_ends_of.nd rfl (by first | exact Or.inl rfl | exact Or.inr rfl)) (qgs_cons K (qg_name K (i := 5) sc_ends_of.nd rfl (by first | exact Or.inl rfl | exact Or.inr rfl)) (qgs_nil K)))))
      (qss_one K (qs_lput K (qv K 2) (qv K 3) (qv K 5))))
    (qss_one K (qs_ret K (qe_ct K (call_tupleK K) (rf_1 rg_tuple) B.tuple L2.bt_tuple (qa_cons K (qv K 2) (qa_nil K)))))))⟩
theorem ok_costs_of {f_costs_of f_cost_at : Addr} {d_costs_of d_cost_at : FuncData} (DA : DefAt K mg "costs_of" s_costs_of f_costs_of d_costs_of ["works", "ends"]) (D_cost_at : DefAt K mg "cost_at" s_cost_at f_cost_at d_cost_at ["cost", "t"]) (G_cost_at : FnOk P w K mg base CX0 2 f_cost_at d_cost_at ["cost", "t"] (spF K 2 F_cost_at)) (B : BltA mg) : FnOk P w K mg base CX0 3 f_costs_of d_costs_of ["works", "ends"] (spF K 2 F_costs_of) := by
  refine ok_data (N := ["works", "ends"]) (m := m_costs_of) DA sc_costs_of fun cdv A outer s H E hr => ?_
  exact ⟨_, (qss_one K (qs_ret K (qe_ht K (call_tupleK K) rg_tuple B.tuple L2.bt_tuple (qn_comp K (loc := ["work", "end"]) (fr := []) (ix := []) rfl ⟨rfl, by decide +kernel, rfl, rfl, rfl, by decide +kernel⟩ (qi_zip K B.zip (qr_tup K (qv K 0)) (qr_tup K (qv K 1))) (fun _ _ _ => (qg_tup K (n := 2) rfl (qgs_cons K (qg_name K (i := 0) (show (["work", "end"] : List Str).Nodup from by decide +kernel) rfl (by first | exact Or.inl rfl | exact Or.inr rfl)) (qgs_cons K (qg_name K (i := 1) (show (["work", "end"] : List Str).Nodup from by decide +kernel) rfl (by first | exact Or.inl rfl | exact Or.inr rfl)) (qgs_nil K))))) (fun _ _ _ => (qf_nil K)) (fun _ _ _ => (qe_callW K 0 G_cost_at hr D_cost_at (qa_cons K (qe_ix K (qv K 0) (qe_int K)) (qa_cons K (qv K 1) (qa_nil K))) mkF_len))))))⟩
theorem ok_worth {f_worth f_costs_of : Addr} {d_worth d_costs_of : FuncData} (DA : DefAt K mg "worth" s_worth f_worth d_worth ["works", "ends", "question"]) (D_costs_of : DefAt K mg "costs_of" s_costs_of f_costs_of d_costs_of ["works", "ends"]) (G_costs_of : FnOk P w K mg base CX0 3 f_costs_of d_costs_of ["works", "ends"] (spF K 2 F_costs_of)) (B : BltA mg) : FnOk P w K mg base CX0 4 f_worth d_worth ["works", "ends", "question"] (spF K 3 F_worth) := by
  refine ok_data (N := ["works", "ends", "question", "costs"]) (m := m_worth) DA sc_worth fun cdv A outer s H E hr => ?_
  exact ⟨_, (qss_cons K (qs_set K (i := 3) sc_worth.nd rfl (by first | exact Or.inl rfl | exact Or.inr rfl) (qe_callW K 0 G_costs_of hr D_costs_of (qa_cons K (qv K 0) (qa_cons K (qv K 1) (qa_nil K))) mkF_len))
    (qss_cons K (qs_if K (qt_cmp K ((op_eq).or (op_eqDK K hr.units)) (rb_else rb_eqS rb_eqP) (qv K 2) (qe_str K))
      (qss_one K (qs_ret K (qe_cb K ((call_maxK K rfl).or (call_maxTK K rfl)) (rf_1 rg_max) B.max L2.bt_max (qa_cons K (qv K 3) (qa_nil K)))))
      (qss_nil K))
    (qss_one K (qs_ret K (qe_cb K ((call_sumK K rfl).or (call_sumTK K rfl)) (rf_1 rg_sum) B.sum L2.bt_sum (qa_cons K (qv K 3) (qa_nil K)))))))⟩
theorem ok_tape {f_tape : Addr} {d_tape : FuncData} (DA : DefAt K mg "_law_tape" s_tape f_tape d_tape ["_law_script"])  (B : BltA mg) : FnOk P w K mg base CX0 1 f_tape d_tape ["_law_script"] (spF K 1 F_tape) := by
  refine ok_data (N := ["_law_script"]) (m := m_tape) DA sc_tape fun cdv A outer s H E hr => ?_
  exact ⟨_, (qss_one K (qs_ret K (qe_new K (qn_lst K (qa_cons K (qe_new K (qn_listH K B.list (qn_slL K (qv K 0) (qo_none K) (qo_some K (qe_int K))))) (qa_cons K (qe_int K) (qa_cons K (qe_int K) (qa_cons K (qe_int K) (qa_nil K)))))))))⟩
theorem ok_pick {f_pick : Addr} {d_pick : FuncData} (DA : DefAt K mg "_law_pick" s_pick f_pick d_pick ["_law_tape_here", "_law_many"])  (B : BltA mg) : FnOk P w K mg base CX0 1 f_pick d_pick ["_law_tape_here", "_law_many"] (spF K 2 F_pick) := by
  refine ok_data (N := ["_law_tape_here", "_law_many", "_law_found", "_law_at", "_law_cell", "_law_mixed"]) (m := m_pick) DA sc_pick fun cdv A outer s H E hr => ?_
  exact ⟨_, (qss_cons K (qs_lput K (qv K 0) (qe_int K) (qe_op K ((op_add).or (op_catTK K)) (rb_else rb_add rb_catT) (qe_ix K (qv K 0) (qe_int K)) (qe_int K)))
    (qss_cons K (qs_if K (qt_cmp K op_gt rb_gt (qe_ix K (qv K 0) (qe_int K)) (qe_int K))
      (qss_cons K (qs_set K (i := 2) sc_pick.nd rfl (by first | exact Or.inl rfl | exact Or.inr rfl) (qe_op K op_mod rb_mod (qe_ix K (qv K 0) (qe_int K)) (qv K 1)))
    (qss_cons K (qs_lput K (qv K 0) (qe_int K) (qe_op K op_fdiv rb_fdiv (qe_ix K (qv K 0) (qe_int K)) (qv K 1)))
    (qss_one K (qs_ret K (qv K 2)))))
      (qss_nil K))
    (qss_cons K (qs_set K (i := 3) sc_pick.nd rfl (by first | exact Or.inl rfl | exact Or.inr rfl) (qe_ix K (qv K 0) (qe_int K)))
    (qss_cons K (qs_lput K (qv K 0) (qe_int K) (qe_op K ((op_add).or (op_catTK K)) (rb_else rb_add rb_catT) (qv K 3) (qe_int K)))
    (qss_cons K (qs_set K (i := 4) sc_pick.nd rfl (by first | exact Or.inl rfl | exact Or.inr rfl) (qe_ifExp K (qt_eqEN K (op_neH K hr.units) (qe_ix K (qv K 0) (qe_int K)) (qn_lst K (qa_nil K))) (qe_ix K (qe_ix K (qv K 0) (qe_int K)) (qe_op K op_mod rb_mod (qv K 3) (qe_cb K (call_lenK K) (rf_1 rg_len) B.len L2.bt_len (qa_cons K (qe_ix K (qv K 0) (qe_int K)) (qa_nil K))))) (qe_int K)))
    (qss_cons K (qs_if K (QW.toT (qw_and K (qt_cmp K op_ge rb_ge (qv K 4) (qe_op K op_pow rb_pow (qe_int K) (qe_int K))) (qw_and1 K (qt_cmp K op_lt rb_lt (qv K 3) (qe_cb K (call_lenK K) (rf_1 rg_len) B.len L2.bt_len (qa_cons K (qe_ix K (qv K 0) (qe_int K)) (qa_nil K)))))))
      (qss_cons K (qs_lput K (qv K 0) (qe_int K) (qe_op K op_fdiv rb_fdiv (qv K 4) (qv K 1)))
    (qss_one K (qs_ret K (qe_op K op_mod rb_mod (qv K 4) (qv K 1)))))
      (qss_nil K))
    (qss_cons K (qs_set K (i := 5) sc_pick.nd rfl (by first | exact Or.inl rfl | exact Or.inr rfl) (qe_op K op_mod rb_mod (qe_op K ((op_add).or (op_catTK K)) (rb_else rb_add rb_catT) (qe_op K ((op_add).or (op_catTK K)) (rb_else rb_add rb_catT) (qe_op K op_mod rb_mod (qv K 4) (qe_int K)) (qe_op K op_mul rb_mul (qe_int K) (qe_ix K (qv K 0) (qe_int K)))) (qe_int K)) (qe_int K)))
    (qss_cons K (qs_set K (i := 5) sc_pick.nd rfl (by first | exact Or.inl rfl | exact Or.inr rfl) (qe_op K op_mod rb_mod (qe_op K ((op_add).or (op_catTK K)) (rb_else rb_add rb_catT) (qe_op K ((op_add).or (op_catTK K)) (rb_else rb_add rb_catT) (qe_op K op_mul rb_mul (qv K 5) (qv K 5)) (qe_op K op_mul rb_mul (qe_int K) (qe_ix K (qv K 0) (qe_int K)))) (qe_int K)) (qe_int K)))
    (qss_cons K (qs_set K (i := 5) sc_pick.nd rfl (by first | exact Or.inl rfl | exact Or.inr rfl) (qe_op K op_mod rb_mod (qe_op K ((op_add).or (op_catTK K)) (rb_else rb_add rb_catT) (qe_op K ((op_add).or (op_catTK K)) (rb_else rb_add rb_catT) (qe_op K op_mul rb_mul (qv K 5) (qv K 5)) (qe_op K op_mul rb_mul (qe_int K) (qv K 5))) (qe_int K)) (qe_int K)))
    (qss_one K (qs_ret K (qe_op K op_mod rb_mod (qe_op K op_fdiv rb_fdiv (qv K 5) (qe_int K)) (qv K 1)))))))))))))⟩
theorem ok_works {f_works f_pick : Addr} {d_works d_pick : FuncData} (DA : DefAt K mg "_law_works" s_works f_works d_works ["_law_tape_here", "_law_many"]) (D_pick : DefAt K mg "_law_pick" s_pick f_pick d_pick ["_law_tape_here", "_law_many"]) (G_pick : FnOk P w K mg base CX0 1 f_pick d_pick ["_law_tape_here", "_law_many"] (spF K 2 F_pick)) (B : BltA mg) : FnOk P w K mg base CX0 2 f_works d_works ["_law_tape_here", "_law_many"] (spF K 2 F_works) := by
  refine ok_data (N := ["_law_tape_here", "_law_many", "_law_long", "_law_heavy", "_law_low", "_law_coming", "_law_found", "_law_j", "_law_length", "_law_weight", "_law_one", "_law_small", "_law_by"]) (m := m_works) DA sc_works fun cdv A outer s H E hr => ?_
  exact ⟨_, (qss_cons K (qs_asg K (qe_ixH K (qn_lst K (qa_cons K (qe_tup K (qa_cons K (qe_int K) (qa_cons K (qe_int K) (qa_cons K (qe_int K) (qa_nil K))))) (qa_cons K (qe_tup K (qa_cons K (qe_int K) (qa_cons K (qe_int K) (qa_cons K (qe_int K) (qa_nil K))))) (qa_cons K (qe_tup K (qa_cons K (qe_int K) (qa_cons K (qe_int K) (qa_cons K (qe_int K) (qa_nil K))))) (qa_cons K (qe_tup K (qa_cons K (qe_int K) (qa_cons K (qe_int K) (qa_cons K (qe_int K) (qa_nil K))))) (qa_nil K)))))) (qe_callW K 2 G_pick hr D_pick (qa_cons K (qv K 0) (qa_cons K (qe_int K) (qa_nil K))) mkF_len)) (qg_tup K (n := 3) rfl (qgs_cons K (qg_name K (i := 2) sc_works.nd rfl (by first | exact Or.inl rfl | exact Or.inr rfl)) (qgs_cons K (qg_name K (i := 3) sc_works.nd rfl (by first | exact Or.inl rfl | exact Or.inr rfl)) (qgs_cons K (qg_name K (i := 4) sc_works.nd rfl (by first | exact Or.inl rfl | exact Or.inr rfl)) (qgs_nil K))))))
    (qss_cons K (qs_if K (QW.toT (qw_and K (qt_cmp K ((op_eq).or (op_eqDK K hr.units)) (rb_else rb_eqS rb_eqP) (qv K 2) (qe_int K)) (qw_and1 K (qt_cmp K ((op_eq).or (op_eqDK K hr.units)) (rb_else rb_eqS rb_eqP) (qe_callW K 2 G_pick hr D_pick (qa_cons K (qv K 0) (qa_cons K (qe_int K) (qa_nil K))) mkF_len) (qe_int K)))))
      (qss_one K (qs_asg K (qe_tup K (qa_cons K (qe_int K) (qa_cons K (qe_int K) (qa_cons K (qe_int K) (qa_nil K))))) (qg_tup K (n := 3) rfl (qgs_cons K (qg_name K (i := 2) sc_works.nd rfl (by first | exact Or.inl rfl | exact Or.inr rfl)) (qgs_cons K (qg_name K (i := 3) sc_works.nd rfl (by first | exact Or.inl rfl | exact Or.inr rfl)) (qgs_cons K (qg_name K (i := 4) sc_works.nd rfl (by first | exact Or.inl rfl | exact Or.inr rfl)) (qgs_nil K)))))))
      (qss_nil K))
    (qss_cons K (qs_set K (i := 5) sc_works.nd rfl (by first | exact Or.inl rfl | exact Or.inr rfl) (qe_ixH K (qn_lst K (qa_cons K (qe_int K) (qa_cons K (qe_callW K 2 G_pick hr D_pick (qa_cons K (qv K 0) (qa_cons K (qe_int K) (qa_nil K))) mkF_len) (qa_nil K)))) (qe_callW K 2 G_pick hr D_pick (qa_cons K (qv K 0) (qa_cons K (qe_int K) (qa_nil K))) mkF_len)))
    (qss_cons K (qs_set K (i := 6) sc_works.nd rfl (by first | exact Or.inl rfl | exact Or.inr rfl) (qe_new K (qn_lst K (qa_nil K))))
    (qss_cons K (qs_for K rfl (qi_rng1 K B.range (qa_cons K (qv K 1) (qa_nil K))) (qg_name K (i := 7) sc_works.nd rfl (by first | exact Or.inl rfl | exact Or.inr rfl))
      (qss_cons K (qs_par K (i := 8) (j := 9) rfl sc_works.nd rfl rfl (by decide) rfl rfl (qa_cons K (qe_op K ((op_add).or (op_catTK K)) (rb_else rb_add rb_catT) (qe_op K ((op_add).or (op_catTK K)) (rb_else rb_add rb_catT) (qe_int K) (qv K 4)) (qe_callW K 2 G_pick hr D_pick (qa_cons K (qv K 0) (qa_cons K (qv K 2) (qa_nil K))) mkF_len)) (qa_cons K (qe_op K ((op_add).or (op_catTK K)) (rb_else rb_add rb_catT) (qv K 4) (qe_callW K 2 G_pick hr D_pick (qa_cons K (qv K 0) (qa_cons K (qv K 3) (qa_nil K))) mkF_len)) (qa_nil K))))
    (qss_cons K (qs_if K (QW.toT (qw_and K (qt_cmp K op_gt rb_gt (qv K 7) (qe_int K)) (qw_and1 K (qt_cmp K ((op_eq).or (op_eqDK K hr.units)) (rb_else rb_eqS rb_eqP) (qe_callW K 2 G_pick hr D_pick (qa_cons K (qv K 0) (qa_cons K (qe_int K) (qa_nil K))) mkF_len) (qe_int K)))))
      (qss_cons K (qs_set K (i := 10) sc_works.nd rfl (by first | exact Or.inl rfl | exact Or.inr rfl) (qe_ix K (qv K 6) (qe_callW K 2 G_pick hr D_pick (qa_cons K (qv K 0) (qa_cons K (qv K 7) (qa_nil K))) mkF_len)))
    (qss_cons K (qs_set K (i := 11) sc_works.nd rfl (by first | exact Or.inl rfl | exact Or.inr rfl) (qe_and K (qe_cmp K op_le rb_le (qe_op K op_mul rb_mul (qe_ix K (qv K 10) (qe_int K)) (qe_int K)) (qv K 2)) (qe_one K (qe_cmp K op_lt rb_lt (qe_op K op_mul rb_mul (qe_ix K (qe_ix K (qv K 10) (qe_int K)) (qe_int K)) (qe_int K)) (qv K 3)))))
    (qss_cons K (qs_set K (i := 12) sc_works.nd rfl (by first | exact Or.inl rfl | exact Or.inr rfl) (qe_ifExp K (qt_truth K (qv K 11)) (qe_op K ((op_add).or (op_catTK K)) (rb_else rb_add rb_catT) (qe_int K) (qe_callW K 2 G_pick hr D_pick (qa_cons K (qv K 0) (qa_cons K (qe_int K) (qa_nil K))) mkF_len)) (qe_int K)))
    (qss_one K (qs_par K (i := 8) (j := 9) rfl sc_works.nd rfl rfl (by decide) rfl rfl (qa_cons K (qe_op K op_mul rb_mul (qe_ix K (qv K 10) (qe_int K)) (qv K 12)) (qa_cons K (qe_op K op_mul rb_mul (qe_ix K (qe_ix K (qv K 10) (qe_int K)) (qe_int K)) (qv K 12)) (qa_nil K))))))))
      (qss_nil K))
    (qss_one K (qs_expr K (qe_mt K PySem.F.slot_list_append PySem.F.type_list_append mt_append rm_append (qv K 6) (qa_cons K (qe_tup K (qa_cons K (qv K 8) (qa_cons K (qv K 5) (qa_cons K (qe_tup K (qa_cons K (qe_str K) (qa_cons K (qv K 9) (qa_nil K)))) (qa_nil K))))) (qa_nil K))))))))
    (qss_one K (qs_ret K (qe_ct K (call_tupleK K) (rf_1 rg_tuple) B.tuple L2.bt_tuple (qa_cons K (qv K 6) (qa_nil K))))))))))⟩
theorem ok_orders {f_orders f_pick : Addr} {d_orders d_pick : FuncData} (DA : DefAt K mg "_law_orders" s_orders f_orders d_orders ["_law_tape_here", "_law_many"]) (D_pick : DefAt K mg "_law_pick" s_pick f_pick d_pick ["_law_tape_here", "_law_many"]) (G_pick : FnOk P w K mg base CX0 1 f_pick d_pick ["_law_tape_here", "_law_many"] (spF K 2 F_pick)) (B : BltA mg) : FnOk P w K mg base CX0 2 f_orders d_orders ["_law_tape_here", "_law_many"] (spF K 2 F_orders) := by
  refine ok_data (N := ["_law_tape_here", "_law_many", "_law_found", "_law_j", "_law_wider", "_law_row", "_law_at", "_law_turn", "_law_left", "_law_k"]) (m := m_orders) DA sc_orders fun cdv A outer s H E hr => ?_
  exact ⟨_, (qss_cons K (qs_set K (i := 2) sc_orders.nd rfl (by first | exact Or.inl rfl | exact Or.inr rfl) (qe_new K (qn_lst K (qa_cons K (qe_tup K (qa_nil K)) (qa_nil K)))))
    (qss_cons K (qs_if K (qt_cmp K op_lt rb_lt (qv K 1) (qe_int K))
      (qss_cons K (qs_for K rfl (qi_rng1 K B.range (qa_cons K (qv K 1) (qa_nil K))) (qg_name K (i := 3) sc_orders.nd rfl (by first | exact Or.inl rfl | exact Or.inr rfl))
      (qss_cons K (qs_set K (i := 4) sc_orders.nd rfl (by first | exact Or.inl rfl | exact Or.inr rfl) (qe_new K (qn_lst K (qa_nil K))))
    (qss_cons K (qs_for K rfl (qi_list K (qv K 2)) (qg_name K (i := 5) sc_orders.nd rfl (by first | exact Or.inl rfl | exact Or.inr rfl))
      (qss_one K (qs_for K rfl (qi_rng1 K B.range (qa_cons K (qe_op K ((op_add).or (op_catTK K)) (rb_else rb_add rb_catT) (qe_cb K (call_lenK K) (rf_1 rg_len) B.len L2.bt_len (qa_cons K (qv K 5) (qa_nil K))) (qe_int K)) (qa_nil K))) (qg_name K (i := 6) sc_orders.nd rfl (by first | exact Or.inl rfl | exact Or.inr rfl))
      (qss_one K (qs_expr K (qe_mt K PySem.F.slot_list_append PySem.F.type_list_append mt_append rm_append (qv K 4) (qa_cons K (qe_op K ((op_add).or (op_catTK K)) (rb_else rb_add rb_catT) (qe_op K (((op_add).or (op_catTK K)).or (op_catN K)) (rb_else (rb_else rb_add rb_catT) rb_catN) (qe_slA K (qv K 5) (qo_none K) (qo_some K (qv K 6))) (qe_tup K (qa_cons K (qv K 3) (qa_nil K)))) (qe_slA K (qv K 5) (qo_some K (qv K 6)) (qo_none K))) (qa_nil K))))))))
    (qss_one K (qs_set K (i := 2) sc_orders.nd rfl (by first | exact Or.inl rfl | exact Or.inr rfl) (qv K 4))))))
    (qss_one K (qs_ret K (qv K 2))))
      (qss_nil K))
    (qss_cons K (qs_for K rfl (qi_rng1 K B.range (qa_cons K (qe_int K) (qa_nil K))) (qg_name K (i := 7) sc_orders.nd rfl (by first | exact Or.inl rfl | exact Or.inr rfl))
      (qss_trimD K (qss_cons K (qs_par K (i := 8) (j := 5) rfl sc_orders.nd rfl rfl (by decide) rfl rfl (qa_cons K (qe_new K (qn_listR K B.list B.range (qa_cons K (qv K 1) (qa_nil K)))) (qa_cons K (qe_new K (qn_lst K (qa_nil K))) (qa_nil K))))
    (qss_cons K (qs_for K rfl (qi_rng1 K B.range (qa_cons K (qv K 1) (qa_nil K))) (qg_name K (i := 9) sc_orders.nd rfl (by first | exact Or.inl rfl | exact Or.inr rfl))
      (qss_one K (qs_expr K (qe_mt K PySem.F.slot_list_append PySem.F.type_list_append mt_append rm_append (qv K 5) (qa_cons K (qe_mt K PySem.F.slot_list_pop PySem.F.type_list_pop mt_popAt rm_popAt (qv K 8) (qa_cons K (qe_callW K 2 G_pick hr D_pick (qa_cons K (qv K 0) (qa_cons K (qe_cb K (call_lenK K) (rf_1 rg_len) B.len L2.bt_len (qa_cons K (qv K 8) (qa_nil K))) (qa_nil K))) mkF_len) (qa_nil K))) (qa_nil K))))))
    (qss_one K (qs_expr K (qe_mt K PySem.F.slot_list_append PySem.F.type_list_append mt_append rm_append (qv K 2) (qa_cons K (qe_ct K (call_tupleK K) (rf_1 rg_tuple) B.tuple L2.bt_tuple (qa_cons K (qv K 5) (qa_nil K))) (qa_nil K)))))))))
    (qss_one K (qs_ret K (qe_new K (qn_slL K (qv K 2) (qo_some K (qe_int K)) (qo_none K))))))))⟩
theorem ok_cost {f_cost : Addr} {d_cost : FuncData} (DA : DefAt K mg "_law_cost" s_cost f_cost d_cost ["_law_works_here", "_law_order"])  (B : BltA mg) : FnOk P w K mg base CX0 1 f_cost d_cost ["_law_works_here", "_law_order"] (spF K 2 F_cost) := by
  refine ok_data (N := ["_law_works_here", "_law_order", "_law_end", "_law_found", "_law_j"]) (m := m_cost) DA sc_cost fun cdv A outer s H E hr => ?_
  exact ⟨_, (qss_cons K (qs_par K (i := 2) (j := 3) rfl sc_cost.nd rfl rfl (by decide) rfl rfl (qa_cons K (qe_ix K (qe_ix K (qv K 0) (qe_int K)) (qe_int K)) (qa_cons K (qe_int K) (qa_nil K))))
    (qss_cons K (qs_for K rfl (qi_tup K (qv K 1)) (qg_name K (i := 4) sc_cost.nd rfl (by first | exact Or.inl rfl | exact Or.inr rfl))
      (qss_cons K (qs_set K (i := 2) sc_cost.nd rfl (by first | exact Or.inl rfl | exact Or.inr rfl) (qe_op K ((op_add).or (op_catTK K)) (rb_else rb_add rb_catT) (qv K 2) (qe_ix K (qe_ix K (qv K 0) (qv K 4)) (qe_int K))))
    (qss_one K (qs_set K (i := 3) sc_cost.nd rfl (by first | exact Or.inl rfl | exact Or.inr rfl) (qe_op K ((op_add).or (op_catTK K)) (rb_else rb_add rb_catT) (qv K 3) (qe_op K op_mul rb_mul (qe_ix K (qe_ix K (qe_ix K (qv K 0) (qv K 4)) (qe_int K)) (qe_int K)) (qv K 2)))))))
    (qss_one K (qs_ret K (qv K 3)))))⟩
theorem ok_law {f_law f_ratio_order f_pair_sum f_run f_ends_of f_worth f_tape f_pick f_works f_orders f_cost : Addr} {d_law d_ratio_order d_pair_sum d_run d_ends_of d_worth d_tape d_pick d_works d_orders d_cost : FuncData} (DA : DefAt K mg "law" s_law f_law d_law ["_law_script"]) (D_ratio_order : DefAt K mg "ratio_order" s_ratio_order f_ratio_order d_ratio_order ["works"]) (G_ratio_order : FnOk P w K mg base CX0 4 f_ratio_order d_ratio_order ["works"] (spF K 1 F_ratio_order)) (D_pair_sum : DefAt K mg "pair_sum" s_pair_sum f_pair_sum d_pair_sum ["works"]) (G_pair_sum : FnOk P w K mg base CX0 4 f_pair_sum d_pair_sum ["works"] (spF K 1 F_pair_sum)) (D_run : DefAt K mg "run" s_run f_run d_run ["works", "order"]) (G_run : FnOk P w K mg base CX0 1 f_run d_run ["works", "order"] (spF K 2 F_run)) (D_ends_of : DefAt K mg "ends_of" s_ends_of f_ends_of d_ends_of ["works", "plan"]) (G_ends_of : FnOk P w K mg base CX0 1 f_ends_of d_ends_of ["works", "plan"] (spF K 2 F_ends_of)) (D_worth : DefAt K mg "worth" s_worth f_worth d_worth ["works", "ends", "question"]) (G_worth : FnOk P w K mg base CX0 4 f_worth d_worth ["works", "ends", "question"] (spF K 3 F_worth)) (D_tape : DefAt K mg "_law_tape" s_tape f_tape d_tape ["_law_script"]) (G_tape : FnOk P w K mg base CX0 1 f_tape d_tape ["_law_script"] (spF K 1 F_tape)) (D_pick : DefAt K mg "_law_pick" s_pick f_pick d_pick ["_law_tape_here", "_law_many"]) (G_pick : FnOk P w K mg base CX0 1 f_pick d_pick ["_law_tape_here", "_law_many"] (spF K 2 F_pick)) (D_works : DefAt K mg "_law_works" s_works f_works d_works ["_law_tape_here", "_law_many"]) (G_works : FnOk P w K mg base CX0 2 f_works d_works ["_law_tape_here", "_law_many"] (spF K 2 F_works)) (D_orders : DefAt K mg "_law_orders" s_orders f_orders d_orders ["_law_tape_here", "_law_many"]) (G_orders : FnOk P w K mg base CX0 2 f_orders d_orders ["_law_tape_here", "_law_many"] (spF K 2 F_orders)) (D_cost : DefAt K mg "_law_cost" s_cost f_cost d_cost ["_law_works_here", "_law_order"]) (G_cost : FnOk P w K mg base CX0 1 f_cost d_cost ["_law_works_here", "_law_order"] (spF K 2 F_cost)) (B : BltA mg) : FnOk P w K mg base CX0 5 f_law d_law ["_law_script"] (spF K 1 F_law) := by
  refine ok_data (N := ["_law_script", "_law_tape_here", "_law_turn", "_law_works_here", "_law_least", "_law_order", "_law_costs", "_law_small"]) (m := m_law) DA sc_law fun cdv A outer s H E hr => ?_
  exact ⟨_, (qss_cons K (qs_set K (i := 1) sc_law.nd rfl (by first | exact Or.inl rfl | exact Or.inr rfl) (qe_callG K G_tape hr D_tape (qa_cons K (qv K 0) (qa_nil K)) mkF_len))
    (qss_cons K (qs_for K rfl (qi_rng1 K B.range (qa_cons K (qe_int K) (qa_nil K))) (qg_name K (i := 2) sc_law.nd rfl (by first | exact Or.inl rfl | exact Or.inr rfl))
      (qss_trimD K (qss_cons K (qs_set K (i := 3) sc_law.nd rfl (by first | exact Or.inl rfl | exact Or.inr rfl) (qe_callW K 2 G_works hr D_works (qa_cons K (qv K 1) (qa_cons K (qe_op K ((op_add).or (op_catTK K)) (rb_else rb_add rb_catT) (qe_int K) (qe_callW K 2 G_pick hr D_pick (qa_cons K (qv K 1) (qa_cons K (qe_int K) (qa_nil K))) mkF_len)) (qa_nil K))) mkF_len))
    (qss_cons K (qs_par K (i := 4) (j := 5) rfl sc_law.nd rfl rfl (by decide) rfl rfl (qa_cons K (qe_callW K 0 G_pair_sum hr D_pair_sum (qa_cons K (qv K 3) (qa_nil K)) mkF_len) (qa_cons K (qe_callW K 0 G_ratio_order hr D_ratio_order (qa_cons K (qv K 3) (qa_nil K)) mkF_len) (qa_nil K))))
    (qss_cons K (qs_if K (QW.toT (qw_or K (qt_not K (qt_truth K (qe_isi K .int B.isinstance B.int (qv K 4)))) (qw_or K (qt_truth K (qe_isi K .bool B.isinstance B.bool (qv K 4))) (qw_or1 K (qt_not K (qt_truth K (qe_isi K .tuple B.isinstance B.tuple (qv K 5))))))))
      (qss_one K (qs_ret K (qe_bl K)))
      (qss_nil K))
    (qss_cons K (qs_if K (QW.toT (qw_or K (qt_eqNN K (op_neH K hr.units) (qn_sortedT K B.sorted (qr_tup K (qv K 5))) (qn_listR K B.list B.range (qa_cons K (qe_cb K (call_lenK K) (rf_1 rg_len) B.len L2.bt_len (qa_cons K (qv K 3) (qa_nil K))) (qa_nil K)))) (qw_or1 K (qt_cmp K ((op_ne).or (op_neDK K hr.units)) (rb_else rb_neS rb_neP) (qe_callW K 0 G_cost hr D_cost (qa_cons K (qv K 3) (qa_cons K (qv K 5) (qa_nil K))) mkF_len) (qv K 4)))))
      (qss_one K (qs_ret K (qe_bl K)))
      (qss_nil K))
    (qss_cons K (by first | exact qs_setC K (i := 6) (loc := ["_law_row"]) (fr := ["_law_works_here"]) (ix := [3]) sc_law.nd rfl rfl rfl ⟨rfl, by decide +kernel, rfl, rfl, rfl, by decide +kernel⟩ (qi_list K (qe_callW K 2 G_orders hr D_orders (qa_cons K (qv K 1) (qa_cons K (qe_cb K (call_lenK K) (rf_1 rg_len) B.len L2.bt_len (qa_cons K (qv K 3) (qa_nil K))) (qa_nil K))) mkF_len)) (fun _ _ _ => (qg_name K (i := 0) (show (["_law_row", "_law_works_here"] : List Str).Nodup from by decide +kernel) rfl (by first | exact Or.inl rfl | exact Or.inr rfl))) (fun _ _ _ => (qf_nil K)) (fun _ _ _ => (qe_callW K 0 G_cost hr D_cost (qa_cons K (qv K 1) (qa_cons K (qv K 0) (qa_nil K))) mkF_len)) | exact qs_set K (i := 6) sc_law.nd rfl (by first | exact Or.inl rfl | exact Or.inr rfl) (qe_new K (qn_comp K (loc := ["_law_row"]) (fr := ["_law_works_here"]) (ix := [3]) rfl ⟨rfl, by decide +kernel, rfl, rfl, rfl, by decide +kernel⟩ (qi_list K (qe_callW K 2 G_orders hr D_orders (qa_cons K (qv K 1) (qa_cons K (qe_cb K (call_lenK K) (rf_1 rg_len) B.len L2.bt_len (qa_cons K (qv K 3) (qa_nil K))) (qa_nil K))) mkF_len)) (fun _ _ _ => (qg_name K (i := 0) (show (["_law_row", "_law_works_here"] : List Str).Nodup from by decide +kernel) rfl (by first | exact Or.inl rfl | exact Or.inr rfl))) (fun _ _ _ => (qf_nil K)) (fun _ _ _ => (qe_callW K 0 G_cost hr D_cost (qa_cons K (qv K 1) (qa_cons K (qv K 0) (qa_nil K))) mkF_len)))))
    (qss_cons K (qs_if K (QW.toT (qw_or K (qt_cmp K op_lt rb_lt (qe_cb K (call_minK K rfl) (rf_1 rg_min) B.min L2.bt_min (qa_cons K (qv K 6) (qa_nil K))) (qv K 4)) (qw_or1 K (QW.toT (qw_and K (qt_cmp K op_lt rb_lt (qe_cb K (call_lenK K) (rf_1 rg_len) B.len L2.bt_len (qa_cons K (qv K 3) (qa_nil K))) (qe_int K)) (qw_and1 K (qt_cmp K ((op_ne).or (op_neDK K hr.units)) (rb_else rb_neS rb_neP) (qe_cb K (call_minK K rfl) (rf_1 rg_min) B.min L2.bt_min (qa_cons K (qv K 6) (qa_nil K))) (qv K 4))))))))
      (qss_one K (qs_ret K (qe_bl K)))
      (qss_nil K))
    (qss_cons K (by first | exact qs_setC K (i := 7) (loc := ["_law_length", "_law_coming", "_law_cost_here"]) (fr := []) (ix := []) sc_law.nd rfl rfl rfl ⟨rfl, by decide +kernel, rfl, rfl, rfl, by decide +kernel⟩ (qi_tup K (qv K 3)) (fun _ _ _ => (qg_tup K (n := 3) rfl (qgs_cons K (qg_name K (i := 0) (show (["_law_length", "_law_coming", "_law_cost_here"] : List Str).Nodup from by decide +kernel) rfl (by first | exact Or.inl rfl | exact Or.inr rfl)) (qgs_cons K (qg_name K (i := 1) (show (["_law_length", "_law_coming", "_law_cost_here"] : List Str).Nodup from by decide +kernel) rfl (by first | exact Or.inl rfl | exact Or.inr rfl)) (qgs_cons K (qg_name K (i := 2) (show (["_law_length", "_law_coming", "_law_cost_here"] : List Str).Nodup from by decide +kernel) rfl (by first | exact Or.inl rfl | exact Or.inr rfl)) (qgs_nil K)))))) (fun _ _ _ => (qf_nil K)) (fun _ _ _ => (qe_and K (qe_cmp K op_le rb_le (qv K 0) (qe_int K)) (qe_one K (qe_cmp K op_le rb_le (qe_ix K (qv K 2) (qe_int K)) (qe_int K))))) | exact qs_set K (i := 7) sc_law.nd rfl (by first | exact Or.inl rfl | exact Or.inr rfl) (qe_new K (qn_comp K (loc := ["_law_length", "_law_coming", "_law_cost_here"]) (fr := []) (ix := []) rfl ⟨rfl, by decide +kernel, rfl, rfl, rfl, by decide +kernel⟩ (qi_tup K (qv K 3)) (fun _ _ _ => (qg_tup K (n := 3) rfl (qgs_cons K (qg_name K (i := 0) (show (["_law_length", "_law_coming", "_law_cost_here"] : List Str).Nodup from by decide +kernel) rfl (by first | exact Or.inl rfl | exact Or.inr rfl)) (qgs_cons K (qg_name K (i := 1) (show (["_law_length", "_law_coming", "_law_cost_here"] : List Str).Nodup from by decide +kernel) rfl (by first | exact Or.inl rfl | exact Or.inr rfl)) (qgs_cons K (qg_name K (i := 2) (show (["_law_length", "_law_coming", "_law_cost_here"] : List Str).Nodup from by decide +kernel) rfl (by first | exact Or.inl rfl | exact Or.inr rfl)) (qgs_nil K)))))) (fun _ _ _ => (qf_nil K)) (fun _ _ _ => (qe_and K (qe_cmp K op_le rb_le (qv K 0) (qe_int K)) (qe_one K (qe_cmp K op_le rb_le (qe_ix K (qv K 2) (qe_int K)) (qe_int K))))))))
    (qss_one K (qs_if K (qt_cmp K (op_notInK K) rb_in (qe_bl K) (qv K 7))
      (qss_one K (qs_if K (qt_cmp K ((op_ne).or (op_neDK K hr.units)) (rb_else rb_neS rb_neP) (qe_callW K 0 G_worth hr D_worth (qa_cons K (qv K 3) (qa_cons K (qe_callW K 0 G_ends_of hr D_ends_of (qa_cons K (qv K 3) (qa_cons K (qe_callW K 0 G_run hr D_run (qa_cons K (qv K 3) (qa_cons K (qv K 5) (qa_nil K))) mkF_len) (qa_nil K))) mkF_len) (qa_cons K (qe_str K) (qa_nil K)))) mkF_len) (qv K 4))
      (qss_one K (qs_ret K (qe_bl K)))
      (qss_nil K)))
      (qss_nil K))))))))))))
    (qss_one K (qs_ret K (qe_bl K)))))⟩
end
end T61
namespace T61
open PySem L2 Bd Bt
local macro_rules | `(tactic| sizeOf_list_dec) => `(tactic| first | (with_reducible refine thenS_nx ?_; try dsimp only [List.set_cons_zero, List.set_cons_succ, List.map_cons, List.map_nil, List.cons_append, List.nil_append, List.replicate, Nat.reduceSub, Int.reduceToNat]) | with_reducible refine thenS_rt ?_ | with_reducible refine ws_seq ?_ | with_reducible refine ws_set ?_ | with_reducible refine ws_ret ?_ | with_reducible refine ws_drop ?_ | with_reducible refine ws_next ?_ | with_reducible refine ws_ifn ?_ | with_reducible refine ws_par ?_ | with_reducible refine ws_lput ?_ | with_reducible refine ws_for ?_ | with_reducible refine we_var (d := _) rfl ?_ | with_reducible refine we_c ?_ | with_reducible refine we_op ?_ | with_reducible refine we_tup ?_ | with_reducible refine we_new ?_ | with_reducible refine we_hid ?_ | with_reducible refine we_ixH ?_ | with_reducible refine we_cb ?_ | with_reducible refine we_mt ?_ | with_reducible refine we_callG ?_ | with_reducible refine we_dnew ?_ | with_reducible refine wt_test ?_ | with_reducible refine wt_not ?_ | with_reducible refine wt_and ?_ | with_reducible refine wt_or ?_ | with_reducible refine wt_yes ?_ | with_reducible refine wa_nil ?_ | with_reducible refine wa_cons ?_ | with_reducible refine wa_lst ?_ | with_reducible refine wa_comp ?_ | with_reducible refine wi_R ?_ | with_reducible refine wi_R2 ?_ | with_reducible refine wi_T ?_ | with_reducible refine wi_H ?_ | with_reducible refine wi_L ?_ | with_reducible refine wp_add ?_ | with_reducible refine wp_sub ?_ | with_reducible refine wp_lt ?_ | with_reducible refine wp_le ?_ | with_reducible refine wp_gt ?_ | with_reducible refine wp_ge ?_ | with_reducible refine wp_eqI ?_ | with_reducible refine wp_neI ?_ | with_reducible refine wp_eqX ?_ | with_reducible refine wp_neX ?_ | with_reducible refine wp_max2 ?_ | with_reducible refine wp_min2 ?_ | with_reducible refine ⟨_, rfl, ?_⟩ | refine wp_ix rfl (at_0 _ _) ?_ | refine wp_ix rfl (at_1 _ _ _) ?_ | refine wp_ix rfl (at_2 _ _ _ _) ?_ | refine ⟨_, _, _, _, rfl, rfl, rfl, rfl, ?_⟩ | refine ⟨⟨_, rfl⟩, ?_⟩ | refine ⟨fits_2, ?_⟩ | refine ⟨fits_3, ?_⟩ | refine ⟨fits_4, ?_⟩ | refine ⟨fits_5, ?_⟩ | refine ⟨fits_0, ?_⟩ | refine ⟨fits_1, ?_⟩ | with_reducible refine we_nilEN ?_)
def mix1 (cell turn : Int) : Int := (cell % 2147483647 + 40503 * turn + 11) % 2147483629
def mix2 (x turn : Int) : Int := (x * x + 25717 * turn + 3) % 2147483587
def mix3 (x : Int) : Int := (x * x + 16807 * x + 1) % 2147483579
theorem mk1 (j : Int) : mulOk 40503 j := mulOk_l (by decide) (by decide)
theorem mk2 (j : Int) : mulOk 25717 j := mulOk_l (by decide) (by decide)
theorem mk3 (j : Int) : mulOk 16807 j := mulOk_l (by decide) (by decide)
theorem mo1 : modOk 2147483587 := by unfold modOk; decide
theorem mo2 : modOk 2147483629 := by unfold modOk; decide
theorem mo3 : modOk 2147483647 := by unfold modOk; decide
theorem mo4 : modOk 2147483579 := by unfold modOk; decide
theorem di1 : divOk 256 := by unfold divOk; decide
theorem pick_eq (τ : Tp) (many : Int) (h0 : 0 < many) (h1 : many < 1073741824) : ∃ r τ', DrawL F_pick τ many r τ' := by
  have hm : modOk many := h0
  have hv : divOk many := ⟨h0, h1⟩
  by_cases hl : τ.lf > 0
  · refine ⟨τ.lf % many, { τ with tn := τ.tn + 1, lf := τ.lf / many }, (modlt many h0).1, (modlt many h0).2, ?_⟩
    simp [F_pick, mkF, hl, hm, hv]
  · have key : ∀ cell : Int, (if τ.cells = [] then cell = 6 else atI (τ.cells.map fun i => D.im (.int i)) (τ.nx % (τ.cells.length : Int)) = some (.im (.int cell))) ->
        ∃ r τ', DrawL F_pick τ many r τ' := by
      intro cell hcell
      have b1 := modlt (x := cell % 2147483647 + 40503 * (τ.tn + 1) + 11) 2147483629 (by decide)
      have b2 := modlt (x := mix1 cell (τ.tn + 1) * mix1 cell (τ.tn + 1) + 25717 * (τ.tn + 1) + 3) 2147483587 (by decide)
      have c1 : ∀ j, mulOk (mix1 cell (τ.tn + 1)) j := fun j => mulOk_l (by unfold mix1; omega) (by unfold mix1; omega)
      have c2 : ∀ j, mulOk (mix2 (mix1 cell (τ.tn + 1)) (τ.tn + 1)) j := fun j => mulOk_l (by unfold mix2; omega) (by unfold mix2; omega)
      by_cases hb : cell >= 1000000000000000000 /\ τ.nx < (τ.cells.length : Int)
      · refine ⟨cell % many, { τ with tn := τ.tn + 1, nx := τ.nx + 1, lf := cell / many }, (modlt many h0).1, (modlt many h0).2, ?_⟩
        by_cases hc : τ.cells = []
        · rw [if_pos hc] at hcell; subst hcell; omega
        · rw [if_neg hc] at hcell
          have hl0 : 0 < τ.cells.length := len_pos hc
          have hl0' : modOk (τ.cells.length : Int) := by unfold modOk; omega
          simp [F_pick, mkF, hl, hm, hv, mk1, mk2, mk3, mo1, mo2, mo3, mo4, di1, po1, mEqEN, pyD, allIm_ints, pys_ints, I.pys, cmp_nil, hc, hcell, hl0', hb.1, hb.2, kLen]
      · refine ⟨mix3 (mix2 (mix1 cell (τ.tn + 1)) (τ.tn + 1)) / 256 % many, { τ with tn := τ.tn + 1, nx := τ.nx + 1 }, (modlt many h0).1, (modlt many h0).2, ?_⟩
        have hb' : 1000000000000000000 <= cell -> ¬ τ.nx < (τ.cells.length : Int) := fun a b => hb ⟨a, b⟩
        unfold mix1 at c1 c2
        unfold mix2 at c2
        unfold mix3 mix2 mix1
        by_cases hc : τ.cells = []
        · rw [if_pos hc] at hcell; subst hcell
          simp only [Int.reduceMod] at c1 c2
          simp [F_pick, mkF, hl, hm, hv, mk1, mk2, mk3, mo1, mo2, mo3, mo4, di1, po1, mEqEN, pyD, allIm_ints, pys_ints, I.pys, cmp_nil, cmp_nn, hc, kLen, c1, c2]
        · rw [if_neg hc] at hcell
          have hl0 : 0 < τ.cells.length := len_pos hc
          have hl0' : modOk (τ.cells.length : Int) := by unfold modOk; omega
          by_cases hd : 1000000000000000000 <= cell
          · simp [F_pick, mkF, hl, hm, hv, mk1, mk2, mk3, mo1, mo2, mo3, mo4, di1, po1, mEqEN, pyD, allIm_ints, pys_ints, I.pys, cmp_nil, hc, hcell, hl0', kLen, c1, c2, hd, hb' hd]
          · simp [F_pick, mkF, hl, hm, hv, mk1, mk2, mk3, mo1, mo2, mo3, mo4, di1, po1, mEqEN, pyD, allIm_ints, pys_ints, I.pys, cmp_nil, hc, hcell, hl0', kLen, c1, c2, hd]
    by_cases hc : τ.cells = []
    · exact key 6 (by rw [if_pos hc])
    · obtain ⟨c, e⟩ := atmod hc τ.nx
      exact key c (by rw [if_neg hc]; exact e)
theorem tape_eq (ns : List Int) : ∃ τ, F_tape [.ro ns] [] = some (.mu 1, tl τ) := by
  obtain ⟨cs, e⟩ := cut_ints ns none (some 63)
  refine ⟨⟨cs, 0, 0, 0⟩, ?_⟩
  simp [F_tape, mkF, e, tl, tapeL]
theorem f_run : F_run = Bd.F_run := rfl
theorem f_ends : F_ends_of = Bd.F_ends_of := rfl
theorem f_worth : F_worth = Bd.F_worth := rfl
def T (_ : Nat) (a b : MO) : Prop := ∃ τ : Tp, tl τ = [a, b]
theorem tap : Tap T F_pick where
  cl := by
    rintro k a b ⟨τ, e⟩
    have := tl_cl τ
    rw [e] at this
    simpa using this
  le := fun h _ => h
  pick := by
    rintro k a b many ⟨τ, e⟩ h0 h1
    obtain ⟨r, τ', d⟩ := pick_eq τ many h0 h1
    refine ⟨r, .lst (τ'.cells.map fun i => .im (.int i)), .lst (tapeL τ'), d.lo, d.hi, ?_, τ', rfl⟩
    rw [<- e]
    exact d.eq
abbrev wk (c : Int) (p : Int × Int) : Wk := ⟨p.1, c, .ends p.2⟩
abbrev wksI (c : Int) (ws : List (Int × Int)) : I := worksI (ws.map (wk c))
structure WOk (c : Int) (ws : List (Int × Int)) : Prop where
  c0 : 0 <= c
  c1 : c <= 60
  n1 : 1 <= ws.length
  n8 : ws.length <= 8
  each : ∀ p ∈ ws, 1 <= p.1 /\ p.1 <= 1000000 /\ 0 <= p.2 /\ p.2 <= 1000000
abbrev wkD (c : Int) (p : Int × Int) : D := .im (workI (wk c p))
theorem mk_wks (c : Int) (ws : List (Int × Int)) : mkTup (ws.map (wkD c)) = .im (wksI c ws) := by
  have : ws.map (wkD c) = ((ws.map (wk c)).map workI).map D.im := by simp
  rw [this, mkTup_im]
theorem works_w {n : Nat} (h1 : 1 <= n) (hn : n <= 8) : ∀ a b, T 0 a b -> WF F_works [.mu 1, .im (.int (n : Int))] [a, b] fun d x => ∃ i a' b' g, d = .im i /\ (∃ c ws, i = wksI c ws /\ ws.length = n /\ WOk c ws) /\ T 0 a' b' /\ x = a' :: b' :: g := by
  intro a b hT
  unfold F_works
  refine wf_mk rfl ?_
  refine ws_seq (ws_asg ?_)
  repeat sizeOf_list_dec
  refine tap.draw (n := 0) (rest := []) hT rfl (by decide) (by decide) fun r1 a b hT pr1 qr1 => ?_
  have key : ∀ (Q : Fl -> Hd -> Prop), (∀ c ws a' b' g, ws.length = n -> WOk c ws -> T 0 a' b' -> Q (.rt (.im (wksI c ws))) (a' :: b' :: g)) -> ∀ (lg hv lw : Int), 0 < lg -> lg <= 1000000 -> 0 < hv -> hv <= 1000001 -> 0 <= lw -> lw + lg <= 1000000 -> lw + hv <= 1000001 -> ∀ a b, T 0 a b -> WS (mSeq (mSet 5 (mIxH (mLst (mCons (mC (.int 0)) (mCons (mCallW 2 F_pick (mCons (mVar 0) (mCons (mC (.int 61)) mNil))) mNil))) (mCallW 2 F_pick (mCons (mVar 0) (mCons (mC (.int 2)) mNil)))))
    (mSeq (mSet 6 (mNew (mLst mNil)))
    (mSeq (mFor (mItR (mCons (mVar 1) mNil)) (nName 7)
      (mSeq (mPar [8, 9] (mCons (mOp gAddA (mOp gAddA (mC (.int 1)) (mVar 4)) (mCallW 2 F_pick (mCons (mVar 0) (mCons (mVar 2) mNil)))) (mCons (mOp gAddA (mVar 4) (mCallW 2 F_pick (mCons (mVar 0) (mCons (mVar 3) mNil)))) mNil)))
    (mSeq (mIfS (mAnd (mTest (mOp gGt (mVar 7) (mC (.int 0)))) (mTest (mOp gEq (mCallW 2 F_pick (mCons (mVar 0) (mCons (mC (.int 3)) mNil))) (mC (.int 0)))))
      (mSeq (mSet 10 (mOp gIx (mVar 6) (mCallW 2 F_pick (mCons (mVar 0) (mCons (mVar 7) mNil)))))
    (mSeq (mSet 11 (mAndV (mOp gLe (mOp gMul (mOp gIx (mVar 10) (mC (.int 0))) (mC (.int 3))) (mVar 2)) (mOp gLt (mOp gMul (mOp gIx (mOp gIx (mVar 10) (mC (.int 2))) (mC (.int 1))) (mC (.int 3))) (mVar 3))))
    (mSeq (mSet 12 (mIf (mTru (mVar 11)) (mOp gAddA (mC (.int 1)) (mCallW 2 F_pick (mCons (mVar 0) (mCons (mC (.int 3)) mNil)))) (mC (.int 1))))
    (mPar [8, 9] (mCons (mOp gMul (mOp gIx (mVar 10) (mC (.int 0))) (mVar 12)) (mCons (mOp gMul (mOp gIx (mOp gIx (mVar 10) (mC (.int 2))) (mC (.int 1))) (mVar 12)) mNil))))))
      mNext)
    (mDrop (mMt fAppend (mVar 6) (mCons (mTup (mCons (mVar 8) (mCons (mVar 5) (mCons (mTup (mCons (mC (.str "ends")) (mCons (mVar 9) mNil))) mNil)))) mNil))))))
    (mRet (mCB (f1 true kTuple) (mCons (mVar 6) mNil)))))) [some (.mu 1), some (.im (.int (n : Int))), some (.im (.int lg)), some (.im (.int hv)), some (.im (.int lw)), none, none, none, none, none, none, none, none] [a, b] Q := by
    intro Q hQ lg hv lw g1 g2 g3 g4 g5 g6 g7 a b hT
    repeat sizeOf_list_dec
    refine tap.draw (n := 0) hT rfl (by first | decide | omega) (by first | decide | omega) fun r2 a b hT pr2 qr2 => ?_
    repeat sizeOf_list_dec
    refine tap.draw (n := 0) hT rfl (by first | decide | omega) (by first | decide | omega) fun r3 a b hT pr3 qr3 => ?_
    obtain ⟨c, hc, hc0, hc1⟩ : ∃ c : Int, atI [D.im (.int 0), D.im (.int r2)] r3 = some (D.im (.int c)) /\ 0 <= c /\ c <= 60 := by
      rcases (show r3 = 0 ∨ r3 = 1 by omega) with rfl | rfl
      · exact ⟨0, at_0 _ _, by omega, by omega⟩
      · exact ⟨r2, at_1 _ _ _, by omega, by omega⟩
    refine ⟨_, _, rfl, hc, ?_⟩
    repeat sizeOf_list_dec
    refine ⟨rng1_of (by omega) (by omega), ?_⟩
    rw [Int.toNat_natCast]
    refine wl_inv (fun r ls hd => ∃ (ws : List (Int × Int)) (j : Nat) (a b : MO) (z7 z8 z9 z10 z11 z12 : Option D), r = rangeD (j : Int) (n - j) /\ j <= n /\ ws.length = j /\ (∀ p ∈ ws, 1 <= p.1 /\ p.1 <= 1000000 /\ 0 <= p.2 /\ p.2 <= 1000000) /\ ls = [some (.mu 1), some (.im (.int (n : Int))), some (.im (.int lg)), some (.im (.int hv)), some (.im (.int lw)), some (.im (.int c)), some (.mu 2), z7, z8, z9, z10, z11, z12] /\ hd = [a, b, .lst (ws.map (wkD c))] /\ T 0 a b) ?_ ?_ ?_
    · exact ⟨[], 0, a, b, none, none, none, none, none, none, rfl, by omega, rfl, by simp, rfl, rfl, hT⟩
    · rintro d r ls hd ⟨ws, j, a, b, z7, z8, z9, z10, z11, z12, er, hj, lw', hw, rfl, rfl, hT⟩
      obtain ⟨m, hm⟩ : ∃ m, n - j = m + 1 := by
        cases q : n - j with
        | zero => rw [q] at er; cases er
        | succ m => exact ⟨m, rfl⟩
      rw [hm, rangeD] at er
      obtain ⟨rfl, rfl⟩ := List.cons.inj er
      have ej : ((j : Int) + 1) = ((j + 1 : Nat) : Int) := by omega
      have em : m = n - (j + 1) := by omega
      refine ⟨_, rfl, ?_⟩
      dsimp only [List.set_cons_zero, List.set_cons_succ]
      repeat sizeOf_list_dec
      refine tap.draw (n := 0) hT rfl (by first | decide | omega) (by first | decide | omega) fun r4 a b hT pr4 qr4 => ?_
      repeat sizeOf_list_dec
      refine tap.draw (n := 0) hT rfl (by first | decide | omega) (by first | decide | omega) fun r5 a b hT pr5 qr5 => ?_
      repeat sizeOf_list_dec
      have fin : ∀ (x y : Int) a b (z10 z11 z12 : Option D), 1 <= x -> x <= 1000000 -> 0 <= y -> y <= 1000000 -> T 0 a b -> WS (mDrop (mMt fAppend (mVar 6) (mCons (mTup (mCons (mVar 8) (mCons (mVar 5) (mCons (mTup (mCons (mC (.str "ends")) (mCons (mVar 9) mNil))) mNil)))) mNil))) [some (.mu 1), some (.im (.int (n : Int))), some (.im (.int lg)), some (.im (.int hv)), some (.im (.int lw)), some (.im (.int c)), some (.mu 2), some (.im (.int (j : Int))), some (.im (.int x)), some (.im (.int y)), z10, z11, z12] [a, b, .lst (ws.map (wkD c))] (turnS [] (fun ls hd => ∃ (ws : List (Int × Int)) (j' : Nat) (a b : MO) (z7 z8 z9 z10 z11 z12 : Option D), rangeD ((j : Int) + 1) m = rangeD (j' : Int) (n - j') /\ j' <= n /\ ws.length = j' /\ (∀ p ∈ ws, 1 <= p.1 /\ p.1 <= 1000000 /\ 0 <= p.2 /\ p.2 <= 1000000) /\ ls = [some (.mu 1), some (.im (.int (n : Int))), some (.im (.int lg)), some (.im (.int hv)), some (.im (.int lw)), some (.im (.int c)), some (.mu 2), z7, z8, z9, z10, z11, z12] /\ hd = [a, b, .lst (ws.map (wkD c))] /\ T 0 a b) (thenS (mRet (mCB (f1 true kTuple) (mCons (mVar 6) mNil))) Q)) := by
        intro x y a b z10 z11 z12 k1 k2 k3 k4 hT
        repeat sizeOf_list_dec
        refine wp_app rfl (fitsL_of (by simp; omega)) ?_
        refine ⟨gok_nil _, ws ++ [(x, y)], j + 1, a, b, _, _, _, _, _, _, by rw [ej, em], by omega, by simp [lw'], ?_, rfl, ?_, hT⟩
        · intro p hp
          rcases List.mem_append.mp hp with h | h
          · exact hw p h
          · simp at h; subst h; exact ⟨k1, k2, k3, k4⟩
        · simp [wkD, workI, costI, mkTup, allIm]
      refine ⟨rfl, thenS_nx ?_⟩
      change WS _ [some (.mu 1), some (.im (.int (n : Int))), some (.im (.int lg)), some (.im (.int hv)), some (.im (.int lw)), some (.im (.int c)), some (.mu 2), some (.im (.int (j : Int))), some (.im (.int (1 + lw + r4))), some (.im (.int (lw + r5))), z10, z11, z12] _ _
      repeat sizeOf_list_dec
      by_cases hj0 : (0 : Int) < (j : Int)
      · rw [if_pos (by simpa using hj0)]
        repeat sizeOf_list_dec
        refine tap.draw (n := 0) hT rfl (by first | decide | omega) (by first | decide | omega) fun r6 a b hT pr6 qr6 => ?_
        repeat sizeOf_list_dec
        refine ⟨fun _ => ?_, fun _ => ws_next (thenS_nx (fin _ _ a b _ _ _ (by omega) (by omega) (by omega) (by omega) hT))⟩
        repeat sizeOf_list_dec
        refine tap.draw (n := 0) (many := (j : Int)) (rest := [.lst (ws.map (wkD c))]) hT rfl (by omega) (by omega) fun r7 a b hT pr7 qr7 => ?_
        obtain ⟨u, rfl⟩ : ∃ u : Nat, r7 = (u : Int) := ⟨r7.toNat, by omega⟩
        have hu : u < ws.length := by omega
        have hp := hw ws[u] (List.getElem_mem hu)
        generalize hpu : ws[u] = p at hp
        obtain ⟨x, y⟩ := p
        dsimp only at hp
        refine wp_ix (ds := ws.map (wkD c)) (e := wkD c (x, y)) rfl (at_k rfl (by simp [hu, hpu])) ?_
        repeat sizeOf_list_dec
        have mx : ∀ i, mulOk x i := fun i => mulOk_l (by omega) (by omega)
        have my : ∀ i, mulOk y i := fun i => mulOk_l (by omega) (by omega)
        refine we_andV (wt_test ?_)
        repeat sizeOf_list_dec
        refine wp_mul (mx _) ?_
        repeat sizeOf_list_dec
        have tail : ∀ (sm : Bool) a b, T 0 a b -> (sm = true -> x * 3 <= lg /\ y * 3 < hv) -> WS (mSeq (mSet 12 (mIf (mTru (mVar 11)) (mOp gAddA (mC (.int 1)) (mCallW 2 F_pick (mCons (mVar 0) (mCons (mC (.int 3)) mNil)))) (mC (.int 1))))
            (mPar [8, 9] (mCons (mOp gMul (mOp gIx (mVar 10) (mC (.int 0))) (mVar 12)) (mCons (mOp gMul (mOp gIx (mOp gIx (mVar 10) (mC (.int 2))) (mC (.int 1))) (mVar 12)) mNil)))) [some (.mu 1), some (.im (.int (n : Int))), some (.im (.int lg)), some (.im (.int hv)), some (.im (.int lw)), some (.im (.int c)), some (.mu 2), some (.im (.int (j : Int))), some (.im (.int (1 + lw + r4))), some (.im (.int (lw + r5))), some (wkD c (x, y)), some (.im (.bl sm)), z12] [a, b, .lst (ws.map (wkD c))] (fun f hd => thenS (mDrop (mMt fAppend (mVar 6) (mCons (mTup (mCons (mVar 8) (mCons (mVar 5) (mCons (mTup (mCons (mC (.str "ends")) (mCons (mVar 9) mNil))) mNil)))) mNil))) (turnS [] (fun ls hd => ∃ (ws : List (Int × Int)) (j' : Nat) (a b : MO) (z7 z8 z9 z10 z11 z12 : Option D), rangeD ((j : Int) + 1) m = rangeD (j' : Int) (n - j') /\ j' <= n /\ ws.length = j' /\ (∀ p ∈ ws, 1 <= p.1 /\ p.1 <= 1000000 /\ 0 <= p.2 /\ p.2 <= 1000000) /\ ls = [some (.mu 1), some (.im (.int (n : Int))), some (.im (.int lg)), some (.im (.int hv)), some (.im (.int lw)), some (.im (.int c)), some (.mu 2), z7, z8, z9, z10, z11, z12] /\ hd = [a, b, .lst (ws.map (wkD c))] /\ T 0 a b) (thenS (mRet (mCB (f1 true kTuple) (mCons (mVar 6) mNil))) Q)) f hd) := by
          intro sm a b hT hsm
          have step : ∀ (v : Int) a b, T 0 a b -> 1 <= v -> v <= 3 -> (v = 1 ∨ (x * 3 <= lg /\ y * 3 < hv)) -> WS (mPar [8, 9] (mCons (mOp gMul (mOp gIx (mVar 10) (mC (.int 0))) (mVar 12)) (mCons (mOp gMul (mOp gIx (mOp gIx (mVar 10) (mC (.int 2))) (mC (.int 1))) (mVar 12)) mNil))) [some (.mu 1), some (.im (.int (n : Int))), some (.im (.int lg)), some (.im (.int hv)), some (.im (.int lw)), some (.im (.int c)), some (.mu 2), some (.im (.int (j : Int))), some (.im (.int (1 + lw + r4))), some (.im (.int (lw + r5))), some (wkD c (x, y)), some (.im (.bl sm)), some (.im (.int v))] [a, b, .lst (ws.map (wkD c))] (fun f hd => thenS (mDrop (mMt fAppend (mVar 6) (mCons (mTup (mCons (mVar 8) (mCons (mVar 5) (mCons (mTup (mCons (mC (.str "ends")) (mCons (mVar 9) mNil))) mNil)))) mNil))) (turnS [] (fun ls hd => ∃ (ws : List (Int × Int)) (j' : Nat) (a b : MO) (z7 z8 z9 z10 z11 z12 : Option D), rangeD ((j : Int) + 1) m = rangeD (j' : Int) (n - j') /\ j' <= n /\ ws.length = j' /\ (∀ p ∈ ws, 1 <= p.1 /\ p.1 <= 1000000 /\ 0 <= p.2 /\ p.2 <= 1000000) /\ ls = [some (.mu 1), some (.im (.int (n : Int))), some (.im (.int lg)), some (.im (.int hv)), some (.im (.int lw)), some (.im (.int c)), some (.mu 2), z7, z8, z9, z10, z11, z12] /\ hd = [a, b, .lst (ws.map (wkD c))] /\ T 0 a b) (thenS (mRet (mCB (f1 true kTuple) (mCons (mVar 6) mNil))) Q)) f hd) := by
            intro v a b hT v1 v3 hv'
            repeat sizeOf_list_dec
            refine wp_mul (mx _) ?_
            repeat sizeOf_list_dec
            refine wp_mul (my _) ?_
            repeat sizeOf_list_dec
            refine ⟨rfl, thenS_nx ?_⟩
            have bx : 1 <= x * v /\ x * v <= 1000000 /\ 0 <= y * v /\ y * v <= 1000000 := by
              rcases (show v = 1 ∨ v = 2 ∨ v = 3 by omega) with rfl | rfl | rfl
              · omega
              · rcases hv' with h | h
                · omega
                · omega
              · rcases hv' with h | h
                · omega
                · omega
            exact fin (x * v) (y * v) a b _ _ _ bx.1 bx.2.1 bx.2.2.1 bx.2.2.2 hT
          refine ws_seq (ws_set (we_ifn (wt_tru (we_var rfl ⟨_, rfl, ?_⟩))))
          refine ⟨fun h => ?_, fun h => we_c (thenS_nx (step 1 a b hT (by omega) (by omega) (.inl rfl)))⟩
          repeat sizeOf_list_dec
          refine tap.draw (n := 0) hT rfl (by decide) (by decide) fun r8 a b hT pr8 qr8 => ?_
          exact wp_add (thenS_nx (step (1 + r8) a b hT (by omega) (by omega) (.inr (hsm h))))
        by_cases hs1 : x * 3 <= lg
        · rw [if_pos (by simpa using hs1)]
          refine we_op (we_op (we_op (we_op (we_var rfl (we_c (wp_ix rfl (at_2 _ _ _ _) ?_))))))
          refine we_c (wp_ix rfl (at_1 _ _ _) (we_c (wp_mul (my _) (we_var rfl (wp_lt (thenS_nx (tail _ a b hT fun h => ⟨hs1, by simpa using h⟩)))))))
        · rw [if_neg (by simpa using hs1)]
          exact thenS_nx (tail false a b hT fun h => by cases h)
      · rw [if_neg (by simpa using hj0)]
        exact ⟨(fun h => by cases h), fun _ => ws_next (thenS_nx (fin _ _ a b _ _ _ (by omega) (by omega) (by omega) (by omega) hT))⟩
    · rintro ls hd ⟨ws, j, a, b, z7, z8, z9, z10, z11, z12, er, hj, lw', hw, rfl, rfl, hT⟩
      have hj' : j = n := by
        cases q : n - j with
        | zero => omega
        | succ m => rw [q] at er; cases er
      repeat sizeOf_list_dec
      refine wp_f1 rfl rfl ?_
      rw [mk_wks]
      exact hQ c ws a b _ (by omega) ⟨hc0, hc1, by omega, by omega, hw⟩ hT
  have start : ∀ (lg hv lw : Int), 0 < lg -> lg <= 1000000 -> 0 < hv -> hv <= 1000001 -> 0 <= lw -> lw + lg <= 1000000 -> lw + hv <= 1000001 -> True := fun _ _ _ _ _ _ _ _ _ _ => trivial
  rcases (show r1 = 0 ∨ r1 = 1 ∨ r1 = 2 ∨ r1 = 3 by omega) with rfl | rfl | rfl | rfl
  · refine ⟨_, _, rfl, at_0 _ _, ⟨[some (.mu 1), some (.im (.int (n : Int))), some (.im (.int 20)), some (.im (.int 10)), some (.im (.int 0)), none, none, none, none, none, none, none, none], rfl, thenS_nx ?_⟩⟩
    repeat sizeOf_list_dec
    rw [if_neg (by decide)]
    refine ⟨(fun h => by cases h), fun _ => ws_next (thenS_nx (key _ ?_ 20 10 0 (by omega) (by omega) (by omega) (by omega) (by omega) (by omega) (by omega) a b hT))⟩
    exact fun c ws a' b' g e1 e2 e3 => ⟨_, a', b', g, rfl, ⟨c, ws, rfl, e1, e2⟩, e3, rfl⟩
  · refine ⟨_, _, rfl, at_1 _ _ _, ⟨[some (.mu 1), some (.im (.int (n : Int))), some (.im (.int 3)), some (.im (.int 3)), some (.im (.int 0)), none, none, none, none, none, none, none, none], rfl, thenS_nx ?_⟩⟩
    repeat sizeOf_list_dec
    rw [if_neg (by decide)]
    refine ⟨(fun h => by cases h), fun _ => ws_next (thenS_nx (key _ ?_ 3 3 0 (by omega) (by omega) (by omega) (by omega) (by omega) (by omega) (by omega) a b hT))⟩
    exact fun c ws a' b' g e1 e2 e3 => ⟨_, a', b', g, rfl, ⟨c, ws, rfl, e1, e2⟩, e3, rfl⟩
  · refine ⟨_, _, rfl, at_2 _ _ _ _, ⟨[some (.mu 1), some (.im (.int (n : Int))), some (.im (.int 20)), some (.im (.int 2)), some (.im (.int 0)), none, none, none, none, none, none, none, none], rfl, thenS_nx ?_⟩⟩
    repeat sizeOf_list_dec
    rw [if_neg (by decide)]
    refine ⟨(fun h => by cases h), fun _ => ws_next (thenS_nx (key _ ?_ 20 2 0 (by omega) (by omega) (by omega) (by omega) (by omega) (by omega) (by omega) a b hT))⟩
    exact fun c ws a' b' g e1 e2 e3 => ⟨_, a', b', g, rfl, ⟨c, ws, rfl, e1, e2⟩, e3, rfl⟩
  · refine ⟨_, _, rfl, at_k (k := 3) rfl rfl, ⟨[some (.mu 1), some (.im (.int (n : Int))), some (.im (.int 1000000)), some (.im (.int 1000001)), some (.im (.int 0)), none, none, none, none, none, none, none, none], rfl, thenS_nx ?_⟩⟩
    repeat sizeOf_list_dec
    rw [if_pos (by decide)]
    repeat sizeOf_list_dec
    refine tap.draw (n := 0) hT rfl (by decide) (by decide) fun r8 a b hT pr8 qr8 => ?_
    repeat sizeOf_list_dec
    refine ⟨fun h => ?_, fun _ => ws_next (thenS_nx (key _ ?_ 1000000 1000001 0 (by omega) (by omega) (by omega) (by omega) (by omega) (by omega) (by omega) a b hT))⟩
    · refine ws_asg (we_tup (wa_cons (we_c (wa_cons (we_c (wa_cons (we_c (wa_nil ⟨fits_3, ?_⟩))))))))
      refine ⟨[some (.mu 1), some (.im (.int (n : Int))), some (.im (.int 8)), some (.im (.int 9)), some (.im (.int 999992)), none, none, none, none, none, none, none, none], rfl, thenS_nx (key _ ?_ 8 9 999992 (by omega) (by omega) (by omega) (by omega) (by omega) (by omega) (by omega) a b hT)⟩
      exact fun c ws a' b' g e1 e2 e3 => ⟨_, a', b', g, rfl, ⟨c, ws, rfl, e1, e2⟩, e3, rfl⟩
    · exact fun c ws a' b' g e1 e2 e3 => ⟨_, a', b', g, rfl, ⟨c, ws, rfl, e1, e2⟩, e3, rfl⟩
end T61
namespace Sm
def sm (f : Nat -> Int) : List Nat -> Int
  | [] => 0
  | k :: r => f k + sm f r
def ps (g : Nat -> Nat -> Int) : List Nat -> Int
  | [] => 0
  | k :: r => sm (g k) r + ps g r
def cst (l w : Nat -> Int) : List Nat -> Int -> Int -> Int
  | [], _, f => f
  | k :: r, e, f => cst l w r (e + l k) (f + w k * (e + l k))
theorem sm_add (f g : Nat -> Int) : ∀ ks, sm (fun k => f k + g k) ks = sm f ks + sm g ks
  | [] => rfl
  | k :: r => by simp only [sm]; rw [sm_add f g r]; omega
theorem sm_le {f g : Nat -> Int} : ∀ {ks : List Nat}, (∀ k ∈ ks, f k <= g k) -> sm f ks <= sm g ks
  | [], _ => Int.le_refl _
  | k :: r, h => by
    have h1 := h k (by simp)
    have h2 := sm_le (f := f) (g := g) (ks := r) fun x hx => h x (by simp [hx])
    simp only [sm]; omega
theorem sm_eq {f g : Nat -> Int} : ∀ {ks : List Nat}, (∀ k ∈ ks, f k = g k) -> sm f ks = sm g ks
  | [], _ => rfl
  | k :: r, h => by
    have h1 := h k (by simp)
    have h2 := sm_eq (f := f) (g := g) (ks := r) fun x hx => h x (by simp [hx])
    simp only [sm]; omega
theorem sm_perm (f : Nat -> Int) {xs ys : List Nat} (p : xs.Perm ys) : sm f xs = sm f ys := by
  induction p with
  | nil => rfl
  | cons x _ ih => simp only [sm, ih]
  | swap x y l => simp only [sm]; omega
  | trans _ _ a b => rw [a, b]
theorem ps_perm {g : Nat -> Nat -> Int} (hg : ∀ x y, g x y = g y x) {xs ys : List Nat} (p : xs.Perm ys) : ps g xs = ps g ys := by
  induction p with
  | nil => rfl
  | cons x q ih => simp only [ps, ih, sm_perm _ q]
  | swap x y l => simp only [ps, sm]; rw [hg x y]; omega
  | trans _ _ a b => rw [a, b]
theorem ps_le {g h : Nat -> Nat -> Int} : ∀ {ks : List Nat}, (∀ x ∈ ks, ∀ y ∈ ks, g x y <= h x y) -> ps g ks <= ps h ks
  | [], _ => Int.le_refl _
  | k :: r, H => by
    have h1 := sm_le (f := g k) (g := h k) (ks := r) fun x hx => H k (by simp) x (by simp [hx])
    have h2 := ps_le (g := g) (h := h) (ks := r) fun x hx y hy => H x (by simp [hx]) y (by simp [hy])
    simp only [ps]; omega
theorem ps_eq {g h : Nat -> Nat -> Int} : ∀ {ks : List Nat}, ks.Pairwise (fun x y => g x y = h x y) -> ps g ks = ps h ks
  | [], _ => rfl
  | k :: r, H => by
    rw [List.pairwise_cons] at H
    have h1 := sm_eq (f := g k) (g := h k) (ks := r) H.1
    have h2 := ps_eq (g := g) (h := h) (ks := r) H.2
    simp only [ps]; omega
theorem ps_snoc (g : Nat -> Nat -> Int) (x : Nat) : ∀ ks, ps g (ks ++ [x]) = ps g ks + sm (fun k => g k x) ks
  | [] => by simp [ps, sm]
  | k :: r => by
    have e : ∀ f : Nat -> Int, ∀ l : List Nat, sm f (l ++ [x]) = sm f l + f x := by
      intro f l
      induction l with
      | nil => simp [sm]
      | cons y r ih => simp only [List.cons_append, sm, ih]; omega
    simp only [List.cons_append, ps, sm, e, ps_snoc g x r]; omega
theorem cst_eq (l w : Nat -> Int) : ∀ (ks : List Nat) (e f : Int), cst l w ks e f = f + sm (fun k => w k * (e + l k)) ks + ps (fun x y => l x * w y) ks
  | [], e, f => by simp [cst, sm, ps]
  | k :: r, e, f => by
    simp only [cst]
    rw [cst_eq l w r]
    have e1 : sm (fun y => w y * (e + l k + l y)) r = sm (fun y => w y * (e + l y)) r + sm (fun y => l k * w y) r := by
      rw [<- sm_add]
      refine sm_eq fun y _ => ?_
      rw [show e + l k + l y = (e + l y) + l k by omega, Int.mul_add (w y) (e + l y) (l k), Int.mul_comm (w y) (l k)]
    rw [e1]
    simp only [sm, ps]
    omega
def least (l w : Nat -> Int) (c : Int) (n : Nat) : Int := sm (fun k => w k * (c + l k)) (List.range n) + ps (fun x y => min (l x * w y) (l y * w x)) (List.range n)
theorem least_le (l w : Nat -> Int) (c : Int) {n : Nat} {ks : List Nat} (p : ks.Perm (List.range n)) : least l w c n <= cst l w ks c 0 := by
  rw [cst_eq, least, <- sm_perm _ p, <- ps_perm (fun x y => Int.min_comm _ _) p]
  have := ps_le (g := fun x y => min (l x * w y) (l y * w x)) (h := fun x y => l x * w y) (ks := ks) fun x _ y _ => Int.min_le_left _ _
  omega
theorem least_eq (l w : Nat -> Int) (c : Int) {n : Nat} {ks : List Nat} (p : ks.Perm (List.range n)) (h : ks.Pairwise fun x y => l x * w y <= l y * w x) : cst l w ks c 0 = least l w c n := by
  rw [cst_eq, least, <- sm_perm _ p, <- ps_perm (fun x y => Int.min_comm _ _) p]
  have := ps_eq (g := fun x y => min (l x * w y) (l y * w x)) (h := fun x y => l x * w y) (ks := ks) (h.imp fun q => Int.min_eq_left q)
  omega
end Sm
namespace T61
open PySem L2 Bd Bt Sm
local macro_rules | `(tactic| sizeOf_list_dec) => `(tactic| first | (with_reducible refine thenS_nx ?_; try dsimp only [List.set_cons_zero, List.set_cons_succ, List.map_cons, List.map_nil, List.cons_append, List.nil_append, List.replicate, Nat.reduceSub, Int.reduceToNat]) | with_reducible refine thenS_rt ?_ | with_reducible refine ws_seq ?_ | with_reducible refine ws_set ?_ | with_reducible refine ws_ret ?_ | with_reducible refine ws_drop ?_ | with_reducible refine ws_next ?_ | with_reducible refine ws_ifn ?_ | with_reducible refine ws_par ?_ | with_reducible refine ws_lput ?_ | with_reducible refine ws_for ?_ | with_reducible refine we_var (d := _) rfl ?_ | with_reducible refine we_c ?_ | with_reducible refine we_op ?_ | with_reducible refine we_tup ?_ | with_reducible refine we_new ?_ | with_reducible refine we_hid ?_ | with_reducible refine we_ixH ?_ | with_reducible refine we_cb ?_ | with_reducible refine we_mt ?_ | with_reducible refine we_callG ?_ | with_reducible refine we_dnew ?_ | with_reducible refine wt_test ?_ | with_reducible refine wt_not ?_ | with_reducible refine wt_and ?_ | with_reducible refine wt_or ?_ | with_reducible refine wt_yes ?_ | with_reducible refine wa_nil ?_ | with_reducible refine wa_cons ?_ | with_reducible refine wa_lst ?_ | with_reducible refine wa_comp ?_ | with_reducible refine wi_R ?_ | with_reducible refine wi_R2 ?_ | with_reducible refine wi_T ?_ | with_reducible refine wi_H ?_ | with_reducible refine wi_L ?_ | with_reducible refine wp_add ?_ | with_reducible refine wp_sub ?_ | with_reducible refine wp_lt ?_ | with_reducible refine wp_le ?_ | with_reducible refine wp_gt ?_ | with_reducible refine wp_ge ?_ | with_reducible refine wp_eqI ?_ | with_reducible refine wp_neI ?_ | with_reducible refine wp_eqX ?_ | with_reducible refine wp_neX ?_ | with_reducible refine wp_max2 ?_ | with_reducible refine wp_min2 ?_ | with_reducible refine ⟨_, rfl, ?_⟩ | refine wp_ix rfl (at_0 _ _) ?_ | refine wp_ix rfl (at_1 _ _ _) ?_ | refine wp_ix rfl (at_2 _ _ _ _) ?_ | refine ⟨_, _, _, _, rfl, rfl, rfl, rfl, ?_⟩ | refine ⟨⟨_, rfl⟩, ?_⟩ | refine ⟨fits_2, ?_⟩ | refine ⟨fits_3, ?_⟩ | refine ⟨fits_4, ?_⟩ | refine ⟨fits_5, ?_⟩ | refine ⟨fits_0, ?_⟩ | refine ⟨fits_1, ?_⟩ | with_reducible refine we_nilEN ?_)
def lf (ws : List (Int × Int)) (k : Nat) : Int := ((ws[k]?).map (·.1)).getD 0
def wf (ws : List (Int × Int)) (k : Nat) : Int := ((ws[k]?).map (·.2)).getD 0
theorem wks_at {c : Int} {ws : List (Int × Int)} {k : Nat} (hk : k < ws.length) : atI (((ws.map (wk c)).map workI).map D.im) (k : Int) = some (wkD c (lf ws k, wf ws k)) := at_k rfl (by simp [hk, lf, wf])
theorem cost_w {c : Int} {ws : List (Int × Int)} {ks : List Nat} (W : WOk c ws) (hk : ∀ k ∈ ks, k < ws.length) :
    WF F_cost [.im (wksI c ws), .im (natsI ks)] [] fun d x => d = .im (.int (cst (lf ws) (wf ws) ks c 0)) /\ x = [] := by
  have n1 := W.n1
  unfold F_cost
  refine wf_mk rfl ?_
  refine ws_seq (ws_par (wa_cons (we_op (we_op (we_var rfl (we_c (wp_ix rfl (wks_at (k := 0) (by omega)) ?_)))))))
  repeat sizeOf_list_dec
  refine ⟨rfl, thenS_nx ?_⟩
  refine ws_seq (ws_for (wi_T (we_var rfl ⟨_, rfl, ?_⟩)))
  rw [show (ks.map fun k : Nat => I.int (k : Int)).map D.im = natD ks by simp [natD]]
  refine wl_inv (fun r ls hd => ∃ (dn rest : List Nat) (e f : Int) (z4 : Option D), ks = dn ++ rest /\ r = natD rest /\ cst (lf ws) (wf ws) ks c 0 = cst (lf ws) (wf ws) rest e f /\ ls = [some (.im (wksI c ws)), some (.im (natsI ks)), some (.im (.int e)), some (.im (.int f)), z4] /\ hd = []) ?_ ?_ ?_
  · exact ⟨[], ks, c, 0, none, rfl, rfl, rfl, rfl, rfl⟩
  · rintro d r ls hd ⟨dn, rest, e, f, z4, ek, er, ec, rfl, rfl⟩
    cases rest with
    | nil => cases er
    | cons u rest =>
      obtain ⟨rfl, rfl⟩ := List.cons.inj er
      have hu : u < ws.length := hk u (by rw [ek]; simp)
      have hb : 0 <= wf ws u /\ wf ws u <= 1000000 := by
        have := W.each ws[u] (List.getElem_mem hu)
        simp [wf, hu]; omega
      refine ⟨_, rfl, ?_⟩
      dsimp only [List.set_cons_zero, List.set_cons_succ]
      repeat sizeOf_list_dec
      refine wp_ix rfl (wks_at hu) ?_
      repeat sizeOf_list_dec
      refine wp_ix rfl (wks_at hu) ?_
      repeat sizeOf_list_dec
      refine wp_mul (mulOk_l (by dsimp only; omega) (by dsimp only; omega)) ?_
      repeat sizeOf_list_dec
      exact ⟨gok_nil _, dn ++ [u], rest, _, _, _, by rw [ek]; simp, rfl, by rw [ec]; rfl, rfl, rfl⟩
  · rintro ls hd ⟨dn, rest, e, f, z4, ek, er, ec, rfl, rfl⟩
    have : rest = [] := by cases rest with
      | nil => rfl
      | cons _ _ => cases er
    subst this
    repeat sizeOf_list_dec
    exact ⟨by rw [ec]; rfl, rfl⟩
end T61
namespace T61
open PySem L2 Bd Bt Sm
local macro_rules | `(tactic| sizeOf_list_dec) => `(tactic| first | (with_reducible refine thenS_nx ?_; try dsimp only [List.set_cons_zero, List.set_cons_succ, List.map_cons, List.map_nil, List.cons_append, List.nil_append, List.replicate, Nat.reduceSub, Int.reduceToNat]) | with_reducible refine thenS_rt ?_ | with_reducible refine ws_seq ?_ | with_reducible refine ws_set ?_ | with_reducible refine ws_ret ?_ | with_reducible refine ws_drop ?_ | with_reducible refine ws_next ?_ | with_reducible refine ws_ifn ?_ | with_reducible refine ws_par ?_ | with_reducible refine ws_lput ?_ | with_reducible refine ws_for ?_ | with_reducible refine we_var (d := _) rfl ?_ | with_reducible refine we_c ?_ | with_reducible refine we_op ?_ | with_reducible refine we_tup ?_ | with_reducible refine we_new ?_ | with_reducible refine we_hid ?_ | with_reducible refine we_ixH ?_ | with_reducible refine we_cb ?_ | with_reducible refine we_mt ?_ | with_reducible refine we_callG ?_ | with_reducible refine we_dnew ?_ | with_reducible refine wt_test ?_ | with_reducible refine wt_not ?_ | with_reducible refine wt_and ?_ | with_reducible refine wt_or ?_ | with_reducible refine wt_yes ?_ | with_reducible refine wa_nil ?_ | with_reducible refine wa_cons ?_ | with_reducible refine wa_lst ?_ | with_reducible refine wa_comp ?_ | with_reducible refine wi_R ?_ | with_reducible refine wi_R2 ?_ | with_reducible refine wi_T ?_ | with_reducible refine wi_H ?_ | with_reducible refine wi_L ?_ | with_reducible refine wp_add ?_ | with_reducible refine wp_sub ?_ | with_reducible refine wp_lt ?_ | with_reducible refine wp_le ?_ | with_reducible refine wp_gt ?_ | with_reducible refine wp_ge ?_ | with_reducible refine wp_eqI ?_ | with_reducible refine wp_neI ?_ | with_reducible refine wp_eqX ?_ | with_reducible refine wp_neX ?_ | with_reducible refine wp_max2 ?_ | with_reducible refine wp_min2 ?_ | with_reducible refine ⟨_, rfl, ?_⟩ | refine wp_ix rfl (at_0 _ _) ?_ | refine wp_ix rfl (at_1 _ _ _) ?_ | refine wp_ix rfl (at_2 _ _ _ _) ?_ | refine ⟨_, _, _, _, rfl, rfl, rfl, rfl, ?_⟩ | refine ⟨⟨_, rfl⟩, ?_⟩ | refine ⟨fits_2, ?_⟩ | refine ⟨fits_3, ?_⟩ | refine ⟨fits_4, ?_⟩ | refine ⟨fits_5, ?_⟩ | refine ⟨fits_0, ?_⟩ | refine ⟨fits_1, ?_⟩ | with_reducible refine we_nilEN ?_)
theorem gcd_w {a b : Nat} (hb : 0 < b) : WF F_common_divisor [.im (.int (a : Int)), .im (.int (b : Int))] [] fun d x => d = .im (.int (Nat.gcd a b : Nat)) := by
  unfold F_common_divisor
  refine wf_mk rfl ?_
  repeat sizeOf_list_dec
  refine WP.eq (z := .im (.int (a : Int))) (h := []) (by simp [fAbs]; omega) ?_
  refine thenS_nx ?_
  change WS _ [some (.im (.int (a : Int))), some (.im (.int (b : Int)))] _ _
  refine ws_seq (ws_while (fun m ls hd => ∃ x y : Nat, m = y /\ Nat.gcd x y = Nat.gcd a b /\ ls = [some (.im (.int (x : Int))), some (.im (.int (y : Int)))] /\ hd = []) (n := b) ⟨a, b, rfl, rfl, rfl, rfl⟩ ?_)
  rintro m ls hd ⟨x, y, rfl, hg, rfl, rfl⟩
  repeat sizeOf_list_dec
  by_cases hy : m = 0
  · subst hy
    rw [if_neg (by simp)]
    repeat sizeOf_list_dec
    show D.im (.int (x : Int)) = _
    rw [<- hg, Nat.gcd_zero_right]
  · rw [if_pos (by simp; omega)]
    repeat sizeOf_list_dec
    refine wp_mod (show modOk (m : Int) by unfold modOk; omega) ?_
    repeat sizeOf_list_dec
    refine ⟨rfl, ?_⟩
    exact ⟨x % m, Nat.mod_lt _ (by omega), m, x % m, rfl, by rw [<- hg, Nat.gcd_comm x m, Nat.gcd_rec m x, Nat.gcd_comm], by simp, rfl⟩
theorem fraction_w {a b : Nat} (hb : 0 < b) (hB : b <= 100000000) : WF F_fraction [.im (.int (a : Int)), .im (.int (b : Int))] [] fun d x => ∃ s p q : Nat, 0 < s /\ a = p * s /\ b = q * s /\ d = .im (.tup [.int (p : Int), .int (q : Int)]) := by
  have hs : 0 < Nat.gcd a b := Nat.gcd_pos_of_pos_right _ hb
  have hs2 : Nat.gcd a b <= b := Nat.gcd_le_right _ hb
  obtain ⟨p, hp⟩ := Nat.gcd_dvd_left a b
  obtain ⟨q, hq⟩ := Nat.gcd_dvd_right a b
  unfold F_fraction
  refine wf_mk rfl ?_
  repeat sizeOf_list_dec
  refine ⟨(fun h => by simp at h; omega), fun _ => ws_next (thenS_nx ?_)⟩
  refine ws_seq (ws_set (we_call0 ?_))
  repeat sizeOf_list_dec
  refine ⟨by simp, (gcd_w hb).mono ?_⟩
  rintro d x rfl
  refine ⟨_, rfl, ?_⟩
  have dv : divOk ((Nat.gcd a b : Nat) : Int) := ⟨by omega, by omega⟩
  repeat sizeOf_list_dec
  refine wp_fdiv dv ?_
  repeat sizeOf_list_dec
  refine wp_fdiv dv ?_
  repeat sizeOf_list_dec
  refine ⟨Nat.gcd a b, p, q, hs, by rw [Nat.mul_comm]; exact hp, by rw [Nat.mul_comm]; exact hq, ?_⟩
  have e1 : (a : Int) / ((Nat.gcd a b : Nat) : Int) = (p : Int) := by
    have : a / Nat.gcd a b = p := Nat.div_eq_of_eq_mul_right hs hp
    rw [<- this]; rfl
  have e2 : (b : Int) / ((Nat.gcd a b : Nat) : Int) = (q : Int) := by
    have : b / Nat.gcd a b = q := Nat.div_eq_of_eq_mul_right hs hq
    rw [<- this]; rfl
  rw [e1, e2]
  rfl
structure Rat' (w l : Int) (r : Int × Int) : Prop where
  ex : ∃ s p q : Nat, 0 < s /\ w = ((p * s : Nat) : Int) /\ l = ((q * s : Nat) : Int) /\ r = ((p : Int), (q : Int))
theorem rat_less {w l w' l' : Int} {r r' : Int × Int} (h : Rat' w l r) (h' : Rat' w' l' r') : (r.1 * r'.2 < r'.1 * r.2) ↔ w * l' < w' * l := by
  obtain ⟨s, p, q, hs, rfl, rfl, rfl⟩ := h.ex
  obtain ⟨s', p', q', hs', rfl, rfl, rfl⟩ := h'.ex
  dsimp only
  have e1 : ((p * s : Nat) : Int) * ((q' * s' : Nat) : Int) = (p * q' : Int) * ((s * s' : Nat) : Int) := by
    push_cast; rw [Int.mul_assoc, Int.mul_assoc, Int.mul_left_comm (s : Int)]
  have e2 : ((p' * s' : Nat) : Int) * ((q * s : Nat) : Int) = (p' * q : Int) * ((s * s' : Nat) : Int) := by
    push_cast; rw [Int.mul_assoc, Int.mul_assoc, Int.mul_left_comm (s' : Int), Int.mul_comm (s' : Int) (s : Int)]
  rw [e1, e2]
  have hp : (0 : Int) < ((s * s' : Nat) : Int) := by have := Nat.mul_pos hs hs'; omega
  constructor
  · intro h; exact Int.mul_lt_mul_of_pos_right h hp
  · intro h; exact Int.lt_of_mul_lt_mul_right h (Int.le_of_lt hp)
abbrev ratD (r : Int × Int) : D := pairD r
theorem less_w {r r' : Int × Int} (b1 : ∀ j, mulOk r.1 j) (b2 : ∀ j, mulOk r'.1 j) : WF F_less [ratD r, ratD r'] [] fun d x => d = .im (.bl (decide (r.1 * r'.2 < r'.1 * r.2))) := by
  unfold F_less
  refine wf_mk rfl ?_
  refine ws_ret (we_op (we_op (we_op (we_var rfl (we_c (wp_ix rfl (at_0 _ _) ?_))))))
  refine we_op (we_var rfl (we_c (wp_ix rfl (at_1 _ _ _) (wp_mul (b1 _) ?_))))
  refine we_op (we_op (we_var rfl (we_c (wp_ix rfl (at_0 _ _) ?_))))
  refine we_op (we_var rfl (we_c (wp_ix rfl (at_1 _ _ _) (wp_mul (b2 _) (wp_lt ?_)))))
  rfl
end T61
namespace T61
open PySem L2 Bd Bt Sm
local macro_rules | `(tactic| sizeOf_list_dec) => `(tactic| first | (with_reducible refine thenS_nx ?_; try dsimp only [List.set_cons_zero, List.set_cons_succ, List.map_cons, List.map_nil, List.cons_append, List.nil_append, List.replicate, Nat.reduceSub, Int.reduceToNat]) | with_reducible refine thenS_rt ?_ | with_reducible refine ws_seq ?_ | with_reducible refine ws_set ?_ | with_reducible refine ws_ret ?_ | with_reducible refine ws_drop ?_ | with_reducible refine ws_next ?_ | with_reducible refine ws_ifn ?_ | with_reducible refine ws_par ?_ | with_reducible refine ws_lput ?_ | with_reducible refine ws_for ?_ | with_reducible refine we_var (d := _) rfl ?_ | with_reducible refine we_c ?_ | with_reducible refine we_op ?_ | with_reducible refine we_tup ?_ | with_reducible refine we_new ?_ | with_reducible refine we_hid ?_ | with_reducible refine we_ixH ?_ | with_reducible refine we_cb ?_ | with_reducible refine we_mt ?_ | with_reducible refine we_callG ?_ | with_reducible refine we_dnew ?_ | with_reducible refine wt_test ?_ | with_reducible refine wt_not ?_ | with_reducible refine wt_and ?_ | with_reducible refine wt_or ?_ | with_reducible refine wt_yes ?_ | with_reducible refine wa_nil ?_ | with_reducible refine wa_cons ?_ | with_reducible refine wa_lst ?_ | with_reducible refine wa_comp ?_ | with_reducible refine wi_R ?_ | with_reducible refine wi_R2 ?_ | with_reducible refine wi_T ?_ | with_reducible refine wi_H ?_ | with_reducible refine wi_L ?_ | with_reducible refine wp_add ?_ | with_reducible refine wp_sub ?_ | with_reducible refine wp_lt ?_ | with_reducible refine wp_le ?_ | with_reducible refine wp_gt ?_ | with_reducible refine wp_ge ?_ | with_reducible refine wp_eqI ?_ | with_reducible refine wp_neI ?_ | with_reducible refine wp_eqX ?_ | with_reducible refine wp_neX ?_ | with_reducible refine wp_max2 ?_ | with_reducible refine wp_min2 ?_ | with_reducible refine ⟨_, rfl, ?_⟩ | refine wp_ix rfl (at_0 _ _) ?_ | refine wp_ix rfl (at_1 _ _ _) ?_ | refine wp_ix rfl (at_2 _ _ _ _) ?_ | refine ⟨_, _, _, _, rfl, rfl, rfl, rfl, ?_⟩ | refine ⟨⟨_, rfl⟩, ?_⟩ | refine ⟨fits_2, ?_⟩ | refine ⟨fits_3, ?_⟩ | refine ⟨fits_4, ?_⟩ | refine ⟨fits_5, ?_⟩ | refine ⟨fits_0, ?_⟩ | refine ⟨fits_1, ?_⟩ | with_reducible refine we_nilEN ?_)
theorem pre {p : Nat -> Prop} [DecidablePred p] : ∀ {row : List Nat}, row.Pairwise (fun x y => p y -> p x) -> (∀ x ∈ row.take (row.filter fun x => decide (p x)).length, p x) /\ ∀ x ∈ row.drop (row.filter fun x => decide (p x)).length, ¬ p x
  | [], _ => by simp
  | x :: r, h => by
    rw [List.pairwise_cons] at h
    by_cases hx : p x
    · have ih := pre h.2
      rw [List.filter_cons, if_pos (by simpa using hx)]
      simp only [List.length_cons, List.take_succ_cons, List.drop_succ_cons]
      refine ⟨fun y hy => ?_, ih.2⟩
      rcases List.mem_cons.mp hy with rfl | hy
      · exact hx
      · exact ih.1 y hy
    · have hn : ∀ y ∈ r, ¬ p y := fun y hy q => hx (h.1 y hy q)
      have : ((x :: r).filter fun x => decide (p x)) = [] := by
        refine List.filter_eq_nil_iff.mpr fun y hy => ?_
        rcases List.mem_cons.mp hy with rfl | hy
        · simpa using hx
        · simpa using hn y hy
      rw [this]
      refine ⟨by simp, fun y hy => ?_⟩
      have hy : y ∈ x :: r := by simpa using hy
      rcases List.mem_cons.mp hy with rfl | hy
      · exact hx
      · exact hn y hy
abbrev le (ws : List (Int × Int)) (x y : Nat) : Prop := lf ws x * wf ws y <= lf ws y * wf ws x
theorem le_trans' {ws : List (Int × Int)} {x y z : Nat} (hy : 0 < lf ws y) (hx : 0 < lf ws x) (hz : 0 < lf ws z) (a : le ws x y) (b : le ws y z) : le ws x z := by
  unfold le at *
  have h1 : lf ws x * wf ws y * lf ws z <= lf ws y * wf ws x * lf ws z := Int.mul_le_mul_of_nonneg_right a (Int.le_of_lt hz)
  have h2 : lf ws y * wf ws z * lf ws x <= lf ws z * wf ws y * lf ws x := Int.mul_le_mul_of_nonneg_right b (Int.le_of_lt hx)
  have e1 : lf ws y * wf ws z * lf ws x = lf ws x * wf ws z * lf ws y := by
    rw [Int.mul_comm (lf ws y) (wf ws z), Int.mul_assoc, Int.mul_comm (lf ws y), <- Int.mul_assoc, Int.mul_comm (wf ws z)]
  have e2 : lf ws z * wf ws y * lf ws x = lf ws x * wf ws y * lf ws z := by
    rw [Int.mul_comm (lf ws z) (wf ws y), Int.mul_assoc, Int.mul_comm (lf ws z), <- Int.mul_assoc, Int.mul_comm (wf ws y)]
  have e3 : lf ws y * wf ws x * lf ws z = lf ws z * wf ws x * lf ws y := by
    rw [Int.mul_comm (lf ws y) (wf ws x), Int.mul_assoc, Int.mul_comm (lf ws y), <- Int.mul_assoc, Int.mul_comm (wf ws x)]
  have h3 : lf ws x * wf ws z * lf ws y <= lf ws z * wf ws x * lf ws y := by rw [<- e1, <- e3]; exact Int.le_trans h2 (by rw [e2]; exact h1)
  exact Int.le_of_mul_le_mul_right h3 hy
theorem lf_pos {c : Int} {ws : List (Int × Int)} (W : WOk c ws) {k : Nat} (hk : k < ws.length) : 1 <= lf ws k /\ lf ws k <= 1000000 /\ 0 <= wf ws k /\ wf ws k <= 1000000 := by
  have := W.each ws[k] (List.getElem_mem hk)
  simp [lf, wf, hk]; omega
theorem ins_ok {c : Int} {ws : List (Int × Int)} (W : WOk c ws) {row : List Nat} {k : Nat} (hk : k < ws.length) (pm : row.Perm (List.range k)) (pw : row.Pairwise (le ws)) :
    (row.take (row.filter fun x => decide (le ws x k)).length ++ k :: row.drop (row.filter fun x => decide (le ws x k)).length).Perm (List.range (k + 1)) /\ (row.take (row.filter fun x => decide (le ws x k)).length ++ k :: row.drop (row.filter fun x => decide (le ws x k)).length).Pairwise (le ws) := by
  have hin : ∀ x ∈ row, x < ws.length := fun x hx => by have := pm.mem_iff.mp hx; simp at this; omega
  have P := pre (p := fun x => le ws x k) (row := row) (List.Pairwise.imp_of_mem (fun {x y} hx hy h q => le_trans' (by have := (lf_pos W (hin y hy)).1; omega) (by have := (lf_pos W (hin x hx)).1; omega) (by have := (lf_pos W hk).1; omega) h q) pw)
  generalize (row.filter fun x => decide (le ws x k)).length = p at *
  constructor
  · have h1 : (row.take p ++ k :: row.drop p).Perm (k :: row) := by
      have := List.perm_middle (a := k) (l₁ := row.take p) (l₂ := row.drop p)
      rwa [List.take_append_drop] at this
    refine h1.trans ?_
    rw [List.range_succ]
    exact ((List.Perm.cons k pm).trans (List.perm_append_singleton k _).symm)
  · have hs : (row.take p ++ row.drop p).Pairwise (le ws) := by rw [List.take_append_drop]; exact pw
    rw [List.pairwise_append] at hs ⊢
    refine ⟨hs.1, List.pairwise_cons.mpr ⟨fun y hy => ?_, hs.2.1⟩, fun x hx y hy => ?_⟩
    · have := P.2 y hy
      unfold le at this ⊢
      omega
    · rcases List.mem_cons.mp hy with rfl | hy
      · exact P.1 x hx
      · exact hs.2.2 x hx y hy
theorem filtL (p : Nat -> Prop) [DecidablePred p] (L : List Nat) : (L.filterMap fun a => if p a then some (D.im (.int (a : Int))) else none).length = (L.filter fun a => decide (p a)).length := by
  induction L with
  | nil => rfl
  | cons x r ih =>
    rw [List.filterMap_cons, List.filter_cons]
    by_cases h : p x
    · simp [h, ih]
    · simp [h, ih]
theorem falling_w {c : Int} {ws : List (Int × Int)} (W : WOk c ws) {rs : List (Int × Int)} (hr : rs.length = ws.length) (R : ∀ k, (hk : k < rs.length) -> Rat' (wf ws k) (lf ws k) rs[k]) :
    WF F_falling [.mu 0] [.lst (rs.map ratD)] fun d x => ∃ row : List Nat, d = .mu 1 /\ x = [.lst (rs.map ratD), .lst (natD row)] /\ row.Perm (List.range ws.length) /\ row.Pairwise (le ws) := by
  have n8 := W.n8
  have rb : ∀ k (hk : k < rs.length) j, mulOk rs[k].1 j := fun k hk j => by
    obtain ⟨s, p, q, hs, e1, e2, e3⟩ := (R k hk).ex
    have b := lf_pos W (k := k) (by omega)
    have h2 : p <= p * s := Nat.le_mul_of_pos_right _ hs
    rw [e3]
    exact mulOk_l (by dsimp only; omega) (by dsimp only; omega)
  unfold F_falling
  refine wf_mk rfl ?_
  repeat sizeOf_list_dec
  refine wi_enum (wi_L (we_var rfl ⟨0, _, rfl, rfl, ?_⟩))
  dsimp only
  generalize hE : ((rs.map ratD).zipIdx.map fun q => mkTup [.im (.int (q.2 : Int)), q.1]) = E
  have El : E.length = rs.length := by rw [<- hE]; simp
  have Ea : ∀ j (hj : j < E.length), E[j] = .im (.tup [.int (j : Int), .tup [.int rs[j].1, .int rs[j].2]]) := by
    intro j hj
    subst hE
    simp [ratD, pairD, mkTup, allIm]
  refine wl_inv (fun r ls hd => ∃ (row : List Nat) (j : Nat) (z2 z3 : Option D), r = E.drop j /\ j <= E.length /\ row.Perm (List.range j) /\ row.Pairwise (le ws) /\ ls = [some (.mu 0), some (.mu 1), z2, z3] /\ hd = [.lst (rs.map ratD), .lst (natD row)]) ?_ ?_ ?_
  · exact ⟨[], 0, none, none, rfl, by omega, by simp, by simp, rfl, rfl⟩
  · rintro d r ls hd ⟨row, j, z2, z3, er, hj, pm, pw, rfl, rfl⟩
    have hj' : j < E.length := by
      rcases Nat.lt_or_ge j E.length with h | h
      · exact h
      · rw [List.drop_eq_nil_of_le h] at er; cases er
    rw [List.drop_eq_getElem_cons hj', Ea j hj'] at er
    obtain ⟨rfl, rfl⟩ := List.cons.inj er
    have hjr : j < rs.length := by omega
    have rl : row.length = j := by simpa using pm.length_eq
    have hin : ∀ x ∈ row, x < j := fun x hx => by simpa using pm.mem_iff.mp hx
    refine ⟨[some (.mu 0), some (.mu 1), some (.im (.int (j : Int))), some (ratD rs[j])], rfl, ?_⟩
    refine ws_drop (we_mt (we_var rfl ⟨⟨_, rfl⟩, wa_cons (we_hid (wa_comp (wi_L (we_var rfl ⟨1, _, rfl, rfl, ?_⟩))))⟩))
    refine ⟨fits_of (by simp; omega), ?_⟩
    refine wc_map (fun k : Nat => D.im (.int (k : Int))) (fun x => if le ws x j then some (.im (.int (x : Int))) else none) (fun _ ls => ∃ x, ls = [some x, some (.mu 0), some (ratD rs[j])]) _ (by intro p hp; simp at hp; subst hp; rfl) ?_ ?_
    · rintro x hx ls hls
      have hxr : x < rs.length := by have := hin x hx; omega
      refine ⟨[some (.im (.int (x : Int))), some (.mu 0), some (ratD rs[j])], by rcases hls with rfl | ⟨_, x, rfl⟩ <;> rfl, ⟨_, rfl⟩, ?_⟩
      refine wt_not (wt_tru (we_call0 (wa_cons (we_op (we_var rfl (we_var rfl (wp_ix (ds := rs.map ratD) (e := ratD rs[x]) rfl (at_k rfl (by simp [hxr])) ?_)))))))
      refine wa_cons (we_var rfl (wa_nil ⟨by simp [ratD, pairD], (less_w (rb x hxr) (rb j hjr)).mono ?_⟩))
      rintro d y rfl
      refine ⟨_, rfl, _, rfl, rfl, ?_⟩
      have q := rat_less (R x hxr) (R j hjr)
      have q2 : ¬ (wf ws x * lf ws j < wf ws j * lf ws x) ↔ le ws x j := by
        unfold le
        rw [Int.mul_comm (wf ws x), Int.mul_comm (wf ws j)]; omega
      by_cases h : le ws x j
      · rw [if_pos (by simp; have := q2.mpr h; have := mt q.mp this; omega)]
        exact ⟨_, if_pos h, we_var rfl ⟨rfl, rfl⟩⟩
      · rw [if_neg (by simp; have := mt q2.mp h; have := q.mpr (by omega); omega)]
        exact if_neg h
    refine ⟨_, rfl, ?_⟩
    rw [filtL]
    refine wa_cons (we_var rfl (wa_nil ?_))
    have fl := List.length_filter_le (fun x => decide (le ws x j)) row
    refine wp_insert (ds := natD row) rfl (by omega) (by simp; omega) (fitsL_of (by simp; omega)) ?_
    obtain ⟨a1, a2⟩ := ins_ok W (by omega) pm pw
    refine ⟨by intro p hp; simp at hp; subst hp; rfl, _, j + 1, _, _, rfl, by omega, a1, a2, rfl, ?_⟩
    simp [natD]
  · rintro ls hd ⟨row, j, z2, z3, er, hj, pm, pw, rfl, rfl⟩
    have hj' : j = ws.length := by
      rcases Nat.lt_or_ge j E.length with h | h
      · rw [List.drop_eq_getElem_cons h] at er; cases er
      · omega
    subst hj'
    repeat sizeOf_list_dec
    exact ⟨row, rfl, rfl, pm, pw⟩
end T61
namespace T61
open PySem L2 Bd Bt Sm
local macro_rules | `(tactic| sizeOf_list_dec) => `(tactic| first | (with_reducible refine thenS_nx ?_; try dsimp only [List.set_cons_zero, List.set_cons_succ, List.map_cons, List.map_nil, List.cons_append, List.nil_append, List.replicate, Nat.reduceSub, Int.reduceToNat]) | with_reducible refine thenS_rt ?_ | with_reducible refine ws_seq ?_ | with_reducible refine ws_set ?_ | with_reducible refine ws_ret ?_ | with_reducible refine ws_drop ?_ | with_reducible refine ws_next ?_ | with_reducible refine ws_ifn ?_ | with_reducible refine ws_par ?_ | with_reducible refine ws_lput ?_ | with_reducible refine ws_for ?_ | with_reducible refine we_var (d := _) rfl ?_ | with_reducible refine we_c ?_ | with_reducible refine we_op ?_ | with_reducible refine we_tup ?_ | with_reducible refine we_new ?_ | with_reducible refine we_hid ?_ | with_reducible refine we_ixH ?_ | with_reducible refine we_cb ?_ | with_reducible refine we_mt ?_ | with_reducible refine we_callG ?_ | with_reducible refine we_dnew ?_ | with_reducible refine wt_test ?_ | with_reducible refine wt_not ?_ | with_reducible refine wt_and ?_ | with_reducible refine wt_or ?_ | with_reducible refine wt_yes ?_ | with_reducible refine wa_nil ?_ | with_reducible refine wa_cons ?_ | with_reducible refine wa_lst ?_ | with_reducible refine wa_comp ?_ | with_reducible refine wi_R ?_ | with_reducible refine wi_R2 ?_ | with_reducible refine wi_T ?_ | with_reducible refine wi_H ?_ | with_reducible refine wi_L ?_ | with_reducible refine wp_add ?_ | with_reducible refine wp_sub ?_ | with_reducible refine wp_lt ?_ | with_reducible refine wp_le ?_ | with_reducible refine wp_gt ?_ | with_reducible refine wp_ge ?_ | with_reducible refine wp_eqI ?_ | with_reducible refine wp_neI ?_ | with_reducible refine wp_eqX ?_ | with_reducible refine wp_neX ?_ | with_reducible refine wp_max2 ?_ | with_reducible refine wp_min2 ?_ | with_reducible refine ⟨_, rfl, ?_⟩ | refine wp_ix rfl (at_0 _ _) ?_ | refine wp_ix rfl (at_1 _ _ _) ?_ | refine wp_ix rfl (at_2 _ _ _ _) ?_ | refine ⟨_, _, _, _, rfl, rfl, rfl, rfl, ?_⟩ | refine ⟨⟨_, rfl⟩, ?_⟩ | refine ⟨fits_2, ?_⟩ | refine ⟨fits_3, ?_⟩ | refine ⟨fits_4, ?_⟩ | refine ⟨fits_5, ?_⟩ | refine ⟨fits_0, ?_⟩ | refine ⟨fits_1, ?_⟩ | with_reducible refine we_nilEN ?_)
theorem wk_map (c : Int) (ws : List (Int × Int)) : ((ws.map (wk c)).map workI).map D.im = ws.map (wkD c) := by simp
theorem coming_w {c : Int} {ws : List (Int × Int)} (W : WOk c ws) : WF F_one_coming [.im (wksI c ws)] [] fun d x => d = .im (.int c) := by
  have n1 := W.n1; have n8 := W.n8
  unfold F_one_coming
  refine wf_mk rfl ?_
  refine ws_seq (ws_set (we_call0 (wa_cons (we_var rfl (wa_nil ⟨by simp, ?_⟩)))))
  have S : WF F_same_coming [.im (wksI c ws)] [] fun d x => d = .im (.int c) := by
    unfold F_same_coming
    refine wf_mk rfl ?_
    refine ws_seq (ws_set (we_op (we_op (we_var rfl (we_c (wp_ix rfl (wks_at (k := 0) (by omega)) ?_))))))
    refine we_c (wp_ix rfl (at_1 _ _ _) (thenS_nx ?_))
    refine ws_seq (ws_ifn (wt_tru (we_hid (wa_comp (wi_T (we_var rfl ⟨_, rfl, ?_⟩))))))
    rw [wk_map]
    refine ⟨fits_of (by simp; omega), ?_⟩
    refine wc_map (wkD c) (fun _ => some (.im (.bl true))) (fun _ ls => ∃ x, ls = [some x, some (.im (.int c))]) _ (gok_nil _) ?_ ?_
    · rintro p hp ls hls
      refine ⟨[some (wkD c p), some (.im (.int c))], by rcases hls with rfl | ⟨_, x, rfl⟩ <;> rfl, ⟨_, rfl⟩, wt_yes ⟨rfl, ?_⟩⟩
      rw [if_pos rfl]
      refine ⟨_, rfl, we_op (we_op (we_var rfl (we_c (wp_ix rfl (at_1 _ _ _) (we_var rfl (wp_eqI ⟨rfl, ?_⟩))))))⟩
      simp
    have e : (ws.filterMap fun _ => some (D.im (.bl true))) = blD (ws.map fun _ => true) := by simp [blD]
    rw [e]
    refine ⟨_, by rw [kAll, blsD_map]; rfl, _, rfl, ?_⟩
    refine ⟨fun _ => ?_, (fun h => by simp at h)⟩
    exact ws_ret (we_var rfl rfl)
  refine S.mono ?_
  rintro d x rfl
  refine ⟨_, rfl, thenS_nx ?_⟩
  refine ws_seq (ws_ifn (wt_test ?_))
  refine WP.eq (z := .im (.bl false)) (h := []) (by simp [mIsN]) ⟨_, rfl, (fun h => by cases h), fun _ => ws_next (thenS_nx ?_)⟩
  exact ws_ret (we_var rfl rfl)
theorem refuse_w {c : Int} {ws : List (Int × Int)} (W : WOk c ws) : WF F_refuse_other_costs [.im (wksI c ws), .im (.str "ends")] [] fun d x => d = .im .non := by
  have n8 := W.n8
  unfold F_refuse_other_costs
  refine wf_mk rfl ?_
  refine ws_ifn (wt_tru (we_hid (wa_comp (wi_T (we_var rfl ⟨_, rfl, ?_⟩)))))
  rw [wk_map]
  refine ⟨fits_of (by simp; omega), ?_⟩
  refine wc_map (wkD c) (fun _ => some (.im (.bl false))) (fun _ ls => ∃ x, ls = [some x, some (.im (.str "ends"))]) _ (gok_nil _) ?_ ?_
  · rintro p hp ls hls
    refine ⟨[some (wkD c p), some (.im (.str "ends"))], by rcases hls with rfl | ⟨_, x, rfl⟩ <;> rfl, ⟨_, rfl⟩, wt_yes ⟨rfl, ?_⟩⟩
    rw [if_pos rfl]
    refine ⟨_, rfl, we_op (we_op (we_op (we_var rfl (we_c (wp_ix rfl (at_2 _ _ _ _) (we_c (wp_ix rfl (at_0 _ _) (we_var rfl (wp_neX ⟨rfl, ?_⟩)))))))))⟩
    simp
  have e : (ws.filterMap fun _ => some (D.im (.bl false))) = blD (ws.map fun _ => false) := by simp [blD]
  rw [e]
  refine ⟨_, by rw [kAny, blsD_map]; rfl, _, rfl, ?_⟩
  exact ⟨(fun h => by simp at h), fun _ => ws_next rfl⟩
theorem weighted_w {c : Int} {ws : List (Int × Int)} (W : WOk c ws) : WF F_weighted_coming [.im (wksI c ws)] [] fun d x => d = .im (.int c) := by
  unfold F_weighted_coming
  refine wf_mk rfl ?_
  refine ws_seq (ws_set (we_call0 (wa_cons (we_var rfl (wa_nil ⟨by simp, (coming_w W).mono ?_⟩)))))
  rintro d x rfl
  refine ⟨_, rfl, thenS_nx ?_⟩
  refine ws_seq (ws_drop (we_call0 (wa_cons (we_var rfl (wa_cons (we_c (wa_nil ⟨by simp, (refuse_w W).mono ?_⟩)))))))
  rintro d x rfl
  exact ⟨_, rfl, thenS_nx (ws_ret (we_var rfl rfl))⟩
theorem weight_w (c : Int) (p : Int × Int) : WF F_weight_of [wkD c p] [] fun d x => d = .im (.int p.2) := by
  unfold F_weight_of
  refine wf_mk rfl ?_
  refine ws_ret (we_op (we_op (we_var rfl (we_c (wp_ix rfl (at_2 _ _ _ _) ?_)))))
  refine we_neg (we_c ⟨_, rfl, ?_⟩)
  refine wp_ix (ds := [.im (.str "ends"), .im (.int p.2)]) (e := .im (.int p.2)) rfl ?_ rfl
  rfl
theorem ratio_w {c : Int} {ws : List (Int × Int)} (W : WOk c ws) {k : Nat} (hk : k < ws.length) : WF F_ratio_of [.im (wksI c ws), .im (natsI [k])] [] fun d x => ∃ r, d = ratD r /\ Rat' (wf ws k) (lf ws k) r := by
  have b := lf_pos W hk
  unfold F_ratio_of
  refine wf_mk rfl ?_
  refine ws_ret (we_call0 (wa_cons (we_hid (wa_comp (wi_T (we_var rfl ⟨_, rfl, fits_1, ?_⟩))))))
  refine wc_map (xs := [k]) (fun k : Nat => D.im (.int (k : Int))) (fun k => some (.im (.int (wf ws k)))) (fun _ ls => ∃ x, ls = [some x, some (.im (wksI c ws))]) _ (gok_nil _) ?_ ?_
  · rintro x hx ls hls
    have hx : x = k := by simpa using hx
    subst hx
    refine ⟨[some (.im (.int (x : Int))), some (.im (wksI c ws))], by rcases hls with rfl | ⟨_, x, rfl⟩ <;> rfl, ⟨_, rfl⟩, wt_yes ⟨rfl, ?_⟩⟩
    rw [if_pos rfl]
    refine ⟨_, rfl, we_call0 (wa_cons (we_op (we_var rfl (we_var rfl (wp_ix rfl (wks_at hk) (wa_nil ⟨by simp [wkD, workI], (weight_w c _).mono ?_⟩))))))⟩
    rintro d y rfl
    exact ⟨_, rfl, rfl, rfl⟩
  refine ⟨.im (.int (wf ws k)), by simp [kSum, intsD], ?_⟩
  refine wa_cons (we_call0 (wa_cons (we_var rfl (wa_cons (we_var rfl (wa_nil ⟨by simp, ?_⟩))))))
  have L : WF F_length_of [.im (wksI c ws), .im (natsI [k])] [] fun d x => d = .im (.int (lf ws k)) := by
    unfold F_length_of
    refine wf_mk rfl ?_
    refine ws_ret (we_hid (wa_comp (wi_T (we_var rfl ⟨_, rfl, fits_1, ?_⟩))))
    refine wc_map (xs := [k]) (fun k : Nat => D.im (.int (k : Int))) (fun k => some (.im (.int (lf ws k)))) (fun _ ls => ∃ x, ls = [some x, some (.im (wksI c ws))]) _ (gok_nil _) ?_ ?_
    · rintro x hx ls hls
      have hx : x = k := by simpa using hx
      subst hx
      refine ⟨[some (.im (.int (x : Int))), some (.im (wksI c ws))], by rcases hls with rfl | ⟨_, x, rfl⟩ <;> rfl, ⟨_, rfl⟩, wt_yes ⟨rfl, ?_⟩⟩
      rw [if_pos rfl]
      exact ⟨_, rfl, we_op (we_op (we_var rfl (we_var rfl (wp_ix rfl (wks_at hk) (we_c (wp_ix rfl (at_0 _ _) ⟨rfl, rfl⟩))))))⟩
    · exact ⟨.im (.int (lf ws k)), by simp [kSum, intsD], rfl⟩
  refine L.mono ?_
  rintro d x rfl
  refine ⟨_, rfl, wa_nil ⟨by simp, ?_⟩⟩
  obtain ⟨wn, hwn⟩ : ∃ wn : Nat, wf ws k = (wn : Int) := ⟨(wf ws k).toNat, by omega⟩
  obtain ⟨ln, hln⟩ : ∃ ln : Nat, lf ws k = (ln : Int) := ⟨(lf ws k).toNat, by omega⟩
  rw [hwn, hln]
  refine (fraction_w (a := wn) (b := ln) (by omega) (by omega)).mono ?_
  rintro d x ⟨s, p, q, hs, e1, e2, rfl⟩
  exact ⟨_, rfl, ((p : Int), (q : Int)), rfl, ⟨s, p, q, hs, by rw [e1], by rw [e2], rfl⟩⟩
theorem order_w {c : Int} {ws : List (Int × Int)} (W : WOk c ws) : WF F_ratio_order [.im (wksI c ws)] [] fun d x => ∃ row : List Nat, d = .im (natsI row) /\ row.Perm (List.range ws.length) /\ row.Pairwise (le ws) := by
  have n8 := W.n8
  unfold F_ratio_order
  refine wf_mk rfl ?_
  refine ws_seq (ws_drop (we_call0 (wa_cons (we_var rfl (wa_nil ⟨by simp, (weighted_w W).mono ?_⟩)))))
  rintro d x rfl
  refine ⟨_, rfl, thenS_nx ?_⟩
  refine ws_ret (we_cb (wa_cons (we_callG (wa_cons (we_new (wa_comp (wi_R (wa_cons (we_cb (wa_cons (we_var rfl (wa_nil ?_))))))))))))
  refine wp_f1 (ds := ((ws.map (wk c)).map workI).map D.im) (z := .im (.int (ws.length : Int))) rfl (by simp [kLen]) ?_
  refine wa_nil ⟨_, rfl, rng1_of (by omega) (by omega), fits_of (by simp; omega), ?_⟩
  rw [Int.toNat_natCast, range_natD]
  refine wc_to (fun r es ls hd => ∃ (dn rest : List Nat) (rs : List (Int × Int)) (z : Option D), List.range ws.length = dn ++ rest /\ r = natD rest /\ es = rs.map ratD /\ rs.length = dn.length /\ (∀ k (hk : k < rs.length), Rat' (wf ws k) (lf ws k) rs[k]) /\ ls = [z, some (.im (wksI c ws))] /\ hd = []) ⟨[], List.range ws.length, [], none, rfl, rfl, rfl, rfl, by intro k hk; simp at hk, rfl, rfl⟩ ?_ ?_
  · rintro d r es ls hd ⟨dn, rest, rs, z, e1, e2, rfl, hl, R, rfl, rfl⟩
    cases rest with
    | nil => cases e2
    | cons u rest =>
      obtain ⟨rfl, rfl⟩ := List.cons.inj e2
      have hu : u = dn.length := by
        have := congrArg (fun l : List Nat => l[dn.length]?) e1
        simp at this
        have h2 : dn.length < ws.length := by have := congrArg List.length e1; simp at this; omega
        rw [List.getElem?_range h2] at this
        simpa using this.symm
      have hk : u < ws.length := by have := congrArg List.length e1; simp at this; omega
      refine ⟨[some (.im (.int (u : Int))), some (.im (wksI c ws))], rfl, wt_yes ?_⟩
      rw [if_pos rfl]
      refine we_call0 (wa_cons (we_var rfl (wa_cons (we_tup (wa_cons (we_var rfl (wa_nil ⟨fits_1, wa_nil ⟨by simp, (ratio_w W hk).mono ?_⟩⟩)))))))
      rintro d x ⟨r, rfl, hr⟩
      refine ⟨_, rfl, gok_nil _, dn ++ [u], rest, rs ++ [r], _, by rw [e1]; simp, rfl, by simp [ratD, pairD], by simp [hl], ?_, rfl, rfl⟩
      intro k hk'
      rcases Nat.lt_or_ge k rs.length with h | h
      · rw [List.getElem_append_left h]; exact R k h
      · have : k = u := by simp at hk'; omega
        subst this
        rw [List.getElem_append_right h]
        simpa using hr
  rintro es ls hd ⟨dn, rest, rs, z, e1, e2, rfl, hl, R, rfl, rfl⟩
  have : rest = [] := by cases rest with
    | nil => rfl
    | cons _ _ => cases e2
  subst this
  have hl' : rs.length = ws.length := by have := congrArg List.length e1; simp at this; omega
  refine wa_nil ((falling_w W hl' R).mono ?_)
  rintro d x ⟨row, rfl, rfl, pm, pw⟩
  refine wa_nil (wp_f1 (ds := natD row) rfl rfl ?_)
  refine ⟨row, ?_, pm, pw⟩
  rw [<- mkTup_im]
  simp [natD]
  rfl
end T61
namespace T61
open PySem L2 Bd Bt Sm
local macro_rules | `(tactic| sizeOf_list_dec) => `(tactic| first | (with_reducible refine thenS_nx ?_; try dsimp only [List.set_cons_zero, List.set_cons_succ, List.map_cons, List.map_nil, List.cons_append, List.nil_append, List.replicate, Nat.reduceSub, Int.reduceToNat]) | with_reducible refine thenS_rt ?_ | with_reducible refine ws_seq ?_ | with_reducible refine ws_set ?_ | with_reducible refine ws_ret ?_ | with_reducible refine ws_drop ?_ | with_reducible refine ws_next ?_ | with_reducible refine ws_ifn ?_ | with_reducible refine ws_par ?_ | with_reducible refine ws_lput ?_ | with_reducible refine ws_for ?_ | with_reducible refine we_var (d := _) rfl ?_ | with_reducible refine we_c ?_ | with_reducible refine we_op ?_ | with_reducible refine we_tup ?_ | with_reducible refine we_new ?_ | with_reducible refine we_hid ?_ | with_reducible refine we_ixH ?_ | with_reducible refine we_cb ?_ | with_reducible refine we_mt ?_ | with_reducible refine we_callG ?_ | with_reducible refine we_dnew ?_ | with_reducible refine wt_test ?_ | with_reducible refine wt_not ?_ | with_reducible refine wt_and ?_ | with_reducible refine wt_or ?_ | with_reducible refine wt_yes ?_ | with_reducible refine wa_nil ?_ | with_reducible refine wa_cons ?_ | with_reducible refine wa_lst ?_ | with_reducible refine wa_comp ?_ | with_reducible refine wi_R ?_ | with_reducible refine wi_R2 ?_ | with_reducible refine wi_T ?_ | with_reducible refine wi_H ?_ | with_reducible refine wi_L ?_ | with_reducible refine wp_add ?_ | with_reducible refine wp_sub ?_ | with_reducible refine wp_lt ?_ | with_reducible refine wp_le ?_ | with_reducible refine wp_gt ?_ | with_reducible refine wp_ge ?_ | with_reducible refine wp_eqI ?_ | with_reducible refine wp_neI ?_ | with_reducible refine wp_eqX ?_ | with_reducible refine wp_neX ?_ | with_reducible refine wp_max2 ?_ | with_reducible refine wp_min2 ?_ | with_reducible refine ⟨_, rfl, ?_⟩ | refine wp_ix rfl (at_0 _ _) ?_ | refine wp_ix rfl (at_1 _ _ _) ?_ | refine wp_ix rfl (at_2 _ _ _ _) ?_ | refine ⟨_, _, _, _, rfl, rfl, rfl, rfl, ?_⟩ | refine ⟨⟨_, rfl⟩, ?_⟩ | refine ⟨fits_2, ?_⟩ | refine ⟨fits_3, ?_⟩ | refine ⟨fits_4, ?_⟩ | refine ⟨fits_5, ?_⟩ | refine ⟨fits_0, ?_⟩ | refine ⟨fits_1, ?_⟩ | with_reducible refine we_nilEN ?_)
theorem wi_zip {ma mb : MI} {ls : Ls} {hd : Hd} {QI : List D × Gd -> Hd -> Prop} (h : WI ma ls hd fun p x => WI mb ls x fun q y => GOk y p.2 /\ QI (List.zipWith (fun x y => mkTup [x, y]) p.1 q.1, p.2 ++ q.2) y) : WI (mZip ma mb) ls hd QI := by
  obtain ⟨p, x, e1, q, y, e2, g, k⟩ := h
  exact ⟨_, _, by simp only [mZip, e1, Option.bind_some, e2, g, if_true], k⟩
theorem sum_sm (f : Nat -> Int) : ∀ ks : List Nat, (ks.map f).sum = sm f ks
  | [] => rfl
  | k :: r => by simp [Sm.sm, sum_sm f r]
def prs : Nat -> List (Nat × Nat)
  | 0 => []
  | n + 1 => prs n ++ (List.range n).map fun i => (i, n)
theorem prs_lt : ∀ n, ∀ p ∈ prs n, p.1 < n /\ p.2 < n
  | 0, p, h => by simp [prs] at h
  | n + 1, p, h => by
    rw [prs] at h
    rcases List.mem_append.mp h with h | h
    · have := prs_lt n p h; omega
    · obtain ⟨i, hi, rfl⟩ := List.mem_map.mp h
      simp at hi; dsimp only; omega
theorem prs_len : ∀ n, (prs n).length <= n * n
  | 0 => by simp [prs]
  | n + 1 => by
    have := prs_len n
    simp only [prs, List.length_append, List.length_map, List.length_range]
    rw [Nat.succ_mul, Nat.mul_succ]; omega
theorem prs_sum (g : Nat -> Nat -> Int) : ∀ n, ((prs n).map fun p => g p.1 p.2).sum = ps g (List.range n)
  | 0 => rfl
  | n + 1 => by
    rw [prs, List.map_append, List.sum_append, prs_sum g n, List.range_succ, ps_snoc, List.map_map]
    congr 1
    exact sum_sm (fun i => g i n) (List.range n)
abbrev prD (p : Nat × Nat) : D := .im (.tup [.int (p.1 : Int), .int (p.2 : Int)])
theorem kSum_ints (ns : List Int) : kSum (intD ns) = some (.im (.int ns.sum)) := by
  have : intsD (intD ns) = some ns := by
    induction ns with
    | nil => rfl
    | cons n r ih => simp [intD] at ih ⊢
  unfold kSum
  rw [this]; rfl
theorem pair_of_w {c : Int} {ws : List (Int × Int)} (W : WOk c ws) : WF F_pair_sum_of [.im (.int c), .mu 0, .mu 1] [.lst (intD (ws.map (·.1))), .lst (intD (ws.map (·.2)))] fun d x => d = .im (.int (least (lf ws) (wf ws) c ws.length)) := by
  have n8 := W.n8
  have la : ∀ k, k < ws.length -> atI (intD (ws.map (·.1))) (k : Int) = some (.im (.int (lf ws k))) := fun k hk => at_k rfl (by simp [intD, lf, hk])
  have wa : ∀ k, k < ws.length -> atI (intD (ws.map (·.2))) (k : Int) = some (.im (.int (wf ws k))) := fun k hk => at_k rfl (by simp [intD, wf, hk])
  unfold F_pair_sum_of
  refine wf_mk rfl ?_
  refine ws_seq (ws_set (we_hid (wa_comp (wi_zip (wi_L (we_var rfl ⟨0, _, rfl, rfl, wi_L (we_var rfl ⟨1, _, rfl, rfl, ?_⟩)⟩))))))
  refine ⟨by intro p hp; rw [List.mem_singleton] at hp; subst hp; rfl, ?_⟩
  dsimp only
  have ez : List.zipWith (fun x y => mkTup [x, y]) (intD (ws.map (·.1))) (intD (ws.map (·.2))) = ws.map pairD := by
    simp only [intD, List.map_map]
    rw [List.zipWith_map]
    have : ∀ l : List (Int × Int), List.zipWith (fun a b : Int × Int => mkTup [((fun i => D.im (.int i)) ∘ fun x => x.1) a, ((fun i => D.im (.int i)) ∘ fun x => x.2) b]) l l = l.map pairD := by
      intro l
      induction l with
      | nil => rfl
      | cons p r ih => rw [List.zipWith_cons_cons, List.map_cons, ih]; rfl
    exact this ws
  rw [ez]
  refine ⟨fits_of (by simp; omega), ?_⟩
  have gk : GOk [.lst (intD (ws.map (·.1))), .lst (intD (ws.map (·.2)))] ([(0, intD (ws.map (·.1)))] ++ [(1, intD (ws.map (·.2)))]) := by
    intro p hp
    simp only [List.mem_append, List.mem_singleton] at hp
    rcases hp with rfl | rfl <;> rfl
  refine wc_map pairD (fun p => some (.im (.int (p.2 * (c + p.1))))) (fun _ ls => ∃ x y, ls = [some x, some y, some (.im (.int c))]) _ gk ?_ ?_
  · rintro p hp ls hls
    have b := W.each p hp
    refine ⟨[some (.im (.int p.1)), some (.im (.int p.2)), some (.im (.int c))], by rcases hls with rfl | ⟨_, x, y, rfl⟩ <;> rfl, ⟨_, _, rfl⟩, wt_yes ⟨rfl, ?_⟩⟩
    rw [if_pos rfl]
    exact ⟨_, rfl, we_op (we_var rfl (we_op (we_var rfl (we_var rfl (wp_add (wp_mul (mulOk_l (by omega) (by omega)) ⟨rfl, rfl⟩))))))⟩
  have e1 : (ws.filterMap fun p => some (D.im (.int (p.2 * (c + p.1))))) = intD (ws.map fun p => p.2 * (c + p.1)) := by simp [intD]
  rw [e1]
  refine ⟨_, kSum_ints _, thenS_nx ?_⟩
  have es : (ws.map fun p => p.2 * (c + p.1)).sum = sm (fun k => wf ws k * (c + lf ws k)) (List.range ws.length) := by
    rw [<- sum_sm]
    congr 1
    refine List.ext_getElem? fun i => ?_
    by_cases hi : i < ws.length
    · simp [hi, lf, wf]
    · rw [List.getElem?_eq_none (by simp; omega), List.getElem?_eq_none (by simp; omega)]
  rw [es]
  change WS _ [some (.im (.int c)), some (.mu 0), some (.mu 1), some (.im (.int (sm (fun k => wf ws k * (c + lf ws k)) (List.range ws.length)))), none] _ _
  generalize hal : Sm.sm (fun k => wf ws k * (c + lf ws k)) (List.range ws.length) = alone
  refine ws_seq (ws_set (we_comp2 (wi_R (wa_cons (we_cb (wa_cons (we_var rfl (wa_nil (wp_f1 (ds := intD (ws.map (·.1))) (z := .im (.int (ws.length : Int))) rfl (by simp [kLen]) ?_)))))))))
  refine wa_nil ⟨_, rfl, rng1_of (by omega) (by omega), ?_⟩
  rw [Int.toNat_natCast]
  refine wo2_inv (fun r ls hd => ∃ (j : Nat) (z0 z1 : Option D), r = rangeD (j : Int) (ws.length - j) /\ j <= ws.length /\ ls = [z0, z1] /\ hd = [.lst (intD (ws.map (·.1))), .lst (intD (ws.map (·.2))), .lst ((prs j).map prD)]) ⟨0, none, none, rfl, by omega, rfl, rfl⟩ ?_ ?_
  · rintro d r ls hd ⟨j, z0, z1, er, hj, rfl, rfl⟩
    obtain ⟨m, hm⟩ : ∃ m, ws.length - j = m + 1 := by
      cases q : ws.length - j with
      | zero => rw [q] at er; cases er
      | succ m => exact ⟨m, rfl⟩
    rw [hm, rangeD] at er
    obtain ⟨rfl, rfl⟩ := List.cons.inj er
    refine ⟨[some (.im (.int (j : Int))), z1], rfl, wt_yes ?_⟩
    rw [if_pos rfl]
    refine wi_R (wa_cons (we_var rfl (wa_nil ⟨_, rfl, rng1_of (by omega) (by omega), ?_⟩)))
    rw [Int.toNat_natCast]
    refine wi2_inv (fun r ls hd => ∃ (i : Nat) (z1 : Option D), r = rangeD (i : Int) (j - i) /\ i <= j /\ ls = [some (.im (.int (j : Int))), z1] /\ hd = [.lst (intD (ws.map (·.1))), .lst (intD (ws.map (·.2))), .lst ((prs j ++ (List.range i).map fun i => (i, j)).map prD)]) ⟨0, _, rfl, by omega, rfl, by simp⟩ ?_ ?_
    · rintro d r ls hd ⟨i, z1, er, hi, rfl, rfl⟩
      obtain ⟨m', hm'⟩ : ∃ m, j - i = m + 1 := by
        cases q : j - i with
        | zero => rw [q] at er; cases er
        | succ m => exact ⟨m, rfl⟩
      rw [hm', rangeD] at er
      obtain ⟨rfl, rfl⟩ := List.cons.inj er
      refine ⟨[some (.im (.int (j : Int))), some (.im (.int (i : Int)))], rfl, wt_yes ?_⟩
      rw [if_pos rfl]
      refine we_tup (wa_cons (we_var rfl (wa_cons (we_var rfl (wa_nil ⟨fits_2, ?_⟩)))))
      have pl := prs_len j
      have pl2 : j * j <= 8 * 8 := Nat.mul_le_mul (by omega) (by omega)
      refine wp_app rfl (fitsL_of (by simp; omega)) ?_
      refine ⟨gok_nil _, i + 1, _, by rw [show ((i : Int) + 1) = ((i + 1 : Nat) : Int) by omega, show m' = j - (i + 1) by omega], by omega, rfl, ?_⟩
      rw [List.range_succ]
      simp [prD, mkTup, allIm]
    · rintro ls hd ⟨i, z1, er, hi, rfl, rfl⟩
      have hi' : i = j := by
        cases q : j - i with
        | zero => omega
        | succ m => rw [q] at er; cases er
      subst hi'
      exact ⟨gok_nil _, i + 1, _, _, by rw [show ((i : Int) + 1) = ((i + 1 : Nat) : Int) by omega, show m = ws.length - (i + 1) by omega], by omega, rfl, rfl⟩
  · rintro ls hd ⟨j, z0, z1, er, hj, rfl, rfl⟩
    have hj' : j = ws.length := by
      cases q : ws.length - j with
      | zero => omega
      | succ m => rw [q] at er; cases er
    subst hj'
    refine thenS_nx ?_
    refine ws_ret (we_op (we_var rfl (we_hid (wa_comp (wi_L (we_var rfl ⟨2, _, rfl, rfl, ?_⟩))))))
    have pl := prs_len ws.length
    have pl2 : ws.length * ws.length <= 8 * 8 := Nat.mul_le_mul (by omega) (by omega)
    refine ⟨fits_of (by simp; omega), ?_⟩
    refine wc_map prD (fun p => some (.im (.int (min (lf ws p.1 * wf ws p.2) (lf ws p.2 * wf ws p.1))))) (fun _ ls => ∃ x y, ls = [some x, some y, some (.mu 0), some (.mu 1)]) _ (by intro p hp; simp at hp; subst hp; rfl) ?_ ?_
    · rintro p hp ls hls
      obtain ⟨h1, h2⟩ := prs_lt _ p hp
      have b1 := lf_pos W h1; have b2 := lf_pos W h2
      refine ⟨[some (.im (.int (p.1 : Int))), some (.im (.int (p.2 : Int))), some (.mu 0), some (.mu 1)], by rcases hls with rfl | ⟨_, x, y, rfl⟩ <;> rfl, ⟨_, _, rfl⟩, wt_yes ⟨rfl, ?_⟩⟩
      rw [if_pos rfl]
      refine ⟨_, rfl, we_cb (wa_cons (we_op (we_op (we_var rfl (we_var rfl (wp_ix rfl (la _ h1) ?_))))))⟩
      refine we_op (we_var rfl (we_var rfl (wp_ix rfl (wa _ h2) (wp_mul (mulOk_l (by omega) (by omega)) ?_))))
      refine wa_cons (we_op (we_op (we_var rfl (we_var rfl (wp_ix rfl (la _ h2) ?_)))))
      refine we_op (we_var rfl (we_var rfl (wp_ix rfl (wa _ h1) (wp_mul (mulOk_l (by omega) (by omega)) (wa_nil (wp_min2 ⟨rfl, rfl⟩))))))
    have e2 : ((prs ws.length).filterMap fun p => some (D.im (.int (min (lf ws p.1 * wf ws p.2) (lf ws p.2 * wf ws p.1))))) = intD ((prs ws.length).map fun p => min (lf ws p.1 * wf ws p.2) (lf ws p.2 * wf ws p.1)) := by simp [intD]
    rw [e2]
    refine ⟨_, kSum_ints _, wp_add ?_⟩
    rw [prs_sum (fun x y => min (lf ws x * wf ws y) (lf ws y * wf ws x)), <- hal]
    rfl
theorem pair_sum_w {c : Int} {ws : List (Int × Int)} (W : WOk c ws) : WF F_pair_sum [.im (wksI c ws)] [] fun d x => d = .im (.int (least (lf ws) (wf ws) c ws.length)) := by
  have n8 := W.n8
  unfold F_pair_sum
  refine wf_mk rfl ?_
  refine ws_seq (ws_set (we_call0 (wa_cons (we_var rfl (wa_nil ⟨by simp, (weighted_w W).mono ?_⟩)))))
  rintro d x rfl
  refine ⟨_, rfl, thenS_nx ?_⟩
  refine ws_ret (we_callG (wa_cons (we_var rfl (wa_cons (we_new (wa_comp (wi_T (we_var rfl ⟨_, rfl, ?_⟩))))))))
  rw [wk_map]
  refine ⟨fits_of (by simp; omega), ?_⟩
  refine wc_map (wkD c) (fun p => some (.im (.int p.1))) (fun _ ls => ∃ x, ls = [some x]) _ (gok_nil _) ?_ ?_
  · rintro p hp ls hls
    refine ⟨[some (wkD c p)], by rcases hls with rfl | ⟨_, x, rfl⟩ <;> rfl, ⟨_, rfl⟩, wt_yes ⟨rfl, ?_⟩⟩
    rw [if_pos rfl]
    exact ⟨_, rfl, we_op (we_var rfl (we_c (wp_ix rfl (at_0 _ _) ⟨rfl, rfl⟩)))⟩
  have e1 : (ws.filterMap fun p => some (D.im (.int p.1))) = intD (ws.map (·.1)) := by simp [intD]
  rw [e1]
  refine wa_cons (we_new (wa_comp (wi_T (we_var rfl ⟨_, rfl, ?_⟩))))
  rw [wk_map]
  refine ⟨fits_of (by simp; omega), ?_⟩
  refine wc_map (wkD c) (fun p => some (.im (.int p.2))) (fun _ ls => ∃ x, ls = [some x]) _ (gok_nil _) ?_ ?_
  · rintro p hp ls hls
    refine ⟨[some (wkD c p)], by rcases hls with rfl | ⟨_, x, rfl⟩ <;> rfl, ⟨_, rfl⟩, wt_yes ⟨rfl, ?_⟩⟩
    rw [if_pos rfl]
    refine ⟨_, rfl, we_call0 (wa_cons (we_var rfl (wa_nil ⟨by simp [wkD, workI], (weight_w c p).mono ?_⟩)))⟩
    rintro d y rfl
    exact ⟨_, rfl, rfl, rfl⟩
  have e2 : (ws.filterMap fun p => some (D.im (.int p.2))) = intD (ws.map (·.2)) := by simp [intD]
  rw [e2]
  refine wa_nil ((pair_of_w W).mono ?_)
  rintro d x rfl
  rfl
end T61
namespace T61
open PySem L2 Bd Bt Sm
local macro_rules | `(tactic| sizeOf_list_dec) => `(tactic| first | (with_reducible refine thenS_nx ?_; try dsimp only [List.set_cons_zero, List.set_cons_succ, List.map_cons, List.map_nil, List.cons_append, List.nil_append, List.replicate, Nat.reduceSub, Int.reduceToNat]) | with_reducible refine thenS_rt ?_ | with_reducible refine ws_seq ?_ | with_reducible refine ws_set ?_ | with_reducible refine ws_ret ?_ | with_reducible refine ws_drop ?_ | with_reducible refine ws_next ?_ | with_reducible refine ws_ifn ?_ | with_reducible refine ws_par ?_ | with_reducible refine ws_lput ?_ | with_reducible refine ws_for ?_ | with_reducible refine we_var (d := _) rfl ?_ | with_reducible refine we_c ?_ | with_reducible refine we_op ?_ | with_reducible refine we_tup ?_ | with_reducible refine we_new ?_ | with_reducible refine we_hid ?_ | with_reducible refine we_ixH ?_ | with_reducible refine we_cb ?_ | with_reducible refine we_mt ?_ | with_reducible refine we_callG ?_ | with_reducible refine we_dnew ?_ | with_reducible refine wt_test ?_ | with_reducible refine wt_not ?_ | with_reducible refine wt_and ?_ | with_reducible refine wt_or ?_ | with_reducible refine wt_yes ?_ | with_reducible refine wa_nil ?_ | with_reducible refine wa_cons ?_ | with_reducible refine wa_lst ?_ | with_reducible refine wa_comp ?_ | with_reducible refine wi_R ?_ | with_reducible refine wi_R2 ?_ | with_reducible refine wi_T ?_ | with_reducible refine wi_H ?_ | with_reducible refine wi_L ?_ | with_reducible refine wp_add ?_ | with_reducible refine wp_sub ?_ | with_reducible refine wp_lt ?_ | with_reducible refine wp_le ?_ | with_reducible refine wp_gt ?_ | with_reducible refine wp_ge ?_ | with_reducible refine wp_eqI ?_ | with_reducible refine wp_neI ?_ | with_reducible refine wp_eqX ?_ | with_reducible refine wp_neX ?_ | with_reducible refine wp_max2 ?_ | with_reducible refine wp_min2 ?_ | with_reducible refine ⟨_, rfl, ?_⟩ | refine wp_ix rfl (at_0 _ _) ?_ | refine wp_ix rfl (at_1 _ _ _) ?_ | refine wp_ix rfl (at_2 _ _ _ _) ?_ | refine ⟨_, _, _, _, rfl, rfl, rfl, rfl, ?_⟩ | refine ⟨⟨_, rfl⟩, ?_⟩ | refine ⟨fits_2, ?_⟩ | refine ⟨fits_3, ?_⟩ | refine ⟨fits_4, ?_⟩ | refine ⟨fits_5, ?_⟩ | refine ⟨fits_0, ?_⟩ | refine ⟨fits_1, ?_⟩ | with_reducible refine we_nilEN ?_)
abbrev rowD (r : List Nat) : D := .im (natsI r)
def ins (j : Nat) (row : List Nat) : List (List Nat) := (List.range (row.length + 1)).map fun i => row.take i ++ j :: row.drop i
def perms : Nat -> List (List Nat)
  | 0 => [[]]
  | j + 1 => (perms j).flatMap (ins j)
theorem perms_perm : ∀ n, ∀ r ∈ perms n, r.Perm (List.range n)
  | 0, r, h => by simp [perms] at h; subst h; simp
  | n + 1, r, h => by
    simp only [perms, List.mem_flatMap, ins, List.mem_map] at h
    obtain ⟨row, hr, i, hi, rfl⟩ := h
    have h1 : (row.take i ++ n :: row.drop i).Perm (n :: row) := by
      have := List.perm_middle (a := n) (l₁ := row.take i) (l₂ := row.drop i)
      rwa [List.take_append_drop] at this
    refine h1.trans ?_
    rw [List.range_succ]
    exact ((List.Perm.cons n (perms_perm n row hr)).trans (List.perm_append_singleton n _).symm)
theorem perms_all : ∀ n, ∀ r : List Nat, r.Perm (List.range n) -> r ∈ perms n
  | 0, r, h => by
    have : r = [] := by simpa using h
    subst this; simp [perms]
  | n + 1, r, h => by
    have hn : n ∈ r := h.mem_iff.mpr (by simp)
    obtain ⟨s, t, rfl⟩ := List.append_of_mem hn
    have h2 : (s ++ t).Perm (List.range n) := by
      have a1 : (n :: (s ++ t)).Perm (n :: List.range n) := (List.perm_middle (a := n) (l₁ := s) (l₂ := t)).symm.trans (h.trans (by rw [List.range_succ]; exact List.perm_append_singleton n _))
      exact a1.cons_inv
    simp only [perms, List.mem_flatMap, ins, List.mem_map]
    exact ⟨s ++ t, perms_all n _ h2, s.length, by simp; omega, by simp⟩
theorem perms_len : ∀ n, n <= 5 -> (perms n).length <= 120 := by
  intro n hn
  rcases (show n = 0 ∨ n = 1 ∨ n = 2 ∨ n = 3 ∨ n = 4 ∨ n = 5 by omega) with rfl | rfl | rfl | rfl | rfl | rfl <;> decide
theorem callTL {F : List D -> Hd -> Option (D × Hd)} {m : MA} {ls : Ls} {hd rest : Hd} {a b : MO} {as : List D} {QE : D -> Hd -> Prop} (e : m ls hd = some (.mu 1 :: as, a :: b :: rest)) (hT : T 0 a b) (hc : clDs 2 as = true)
    (hF : WF F (.mu 1 :: as) [a, b] fun d x => ∃ k es a' b' g, d = .mu k /\ 2 <= k /\ x = a' :: b' :: g /\ x[k]? = some (.lst es) /\ clDs 2 es = true /\ T 0 a' b' /\ QE (.mu (2 + rest.length)) (a' :: b' :: (rest ++ [.lst es]))) : WE (mCallW 2 F m) ls hd QE := by
  obtain ⟨d, x, e2, k, es, a', b', g, rfl, hk, rfl, e3, c3, hT', q⟩ := hF
  refine ⟨_, _, ?_, q⟩
  have t3 : ¬ k < 2 := by omega
  have ca := tap.cl hT
  have ca' := tap.cl hT'
  have c0 : clDs 2 (D.mu 1 :: as) = true := by simp [clDs, clD, hc]
  simp only [mCallW, e, Option.bind_some, List.take_succ_cons, List.take_zero, c0, List.all_cons, List.all_nil, ca.1, ca.2, Bool.and_self, if_true, e2, fin, ca'.1, ca'.2, if_neg t3, e3, c3]
  simp [Nat.add_comm]
  try omega
theorem row_mk (r : List Nat) : mkTup ((r.map fun k : Nat => I.int (k : Int)).map D.im) = rowD r := mkTup_im _
theorem tv (x : List Nat) : tupView (rowD x) = some ((x.map fun k : Nat => I.int (k : Int)).map D.im) := rfl
theorem cat_row {x y : List Nat} (hx : x ≠ []) (hl : x.length + y.length <= 1000) (hd : Hd) : gAddA (rowD x) (rowD y) hd = some (rowD (x ++ y), hd) := by
  have e0 : gAdd (rowD x) (rowD y) hd = none := rfl
  show (match gAdd (rowD x) (rowD y) hd with | some z => some z | none => gCatT (rowD x) (rowD y) hd) = _
  rw [e0]
  have cat : catOk ((x.map fun k : Nat => I.int (k : Int)).map D.im) ((y.map fun k : Nat => I.int (k : Int)).map D.im) := ⟨by simpa using hx, fits_of (by simp; omega)⟩
  unfold gCatT
  rw [tv x, tv y, Option.bind_some, Option.bind_some]
  rw [if_pos cat, <- row_mk, List.map_append, List.map_append]
theorem cat_rowN {x y : List Nat} (hl : x.length + y.length <= 1000) (hd : Hd) : gAddN (rowD x) (rowD y) hd = some (rowD (x ++ y), hd) := by
  show (match gAddA (rowD x) (rowD y) hd with | some z => some z | none => gCatN (rowD x) (rowD y) hd) = _
  by_cases hx : x = []
  · subst hx
    have e0 : gAddA (rowD []) (rowD y) hd = none := by
      have e0 : gAdd (rowD []) (rowD y) hd = none := rfl
      show (match gAdd (rowD []) (rowD y) hd with | some z => some z | none => gCatT (rowD []) (rowD y) hd) = _
      rw [e0]
      unfold gCatT
      rw [tv [], tv y, Option.bind_some, Option.bind_some]
      rw [if_neg (fun h => h.1 rfl)]
    rw [e0]
    unfold gCatN
    rw [tv [], tv y, Option.bind_some, Option.bind_some, if_pos (by simp), row_mk]
    rfl
  · rw [cat_row hx hl]
theorem ins_w {r : List Nat} {i j : Nat} (hi : i <= r.length) (hl : r.length <= 100) {ls : Ls} {hd : Hd} {QE : D -> Hd -> Prop} (e5 : ls[5]? = some (some (rowD r))) (e6 : ls[6]? = some (some (.im (.int (i : Int))))) (e3 : ls[3]? = some (some (.im (.int (j : Int))))) (q : QE (rowD (r.take i ++ j :: r.drop i)) hd) :
    WE (mOp gAddA (mOp gAddN (mSlA (mVar 5) mNoPart (mPart (mVar 6))) (mTup (mCons (mVar 3) mNil))) (mSlA (mVar 5) (mPart (mVar 6)) mNoPart)) ls hd QE := by
  have c1 : cutD ((r.map fun k : Nat => I.int (k : Int)).map D.im) none (some (i : Int)) = ((r.take i).map fun k : Nat => I.int (k : Int)).map D.im := by
    rw [cut_take, List.map_take, List.map_take]
  have c2 : cutD ((r.map fun k : Nat => I.int (k : Int)).map D.im) (some (i : Int)) none = ((r.drop i).map fun k : Nat => I.int (k : Int)).map D.im := by
    unfold cutD
    rw [HT.sIx_nat, HT.sIx_none, List.map_drop, List.map_drop, List.length_map, List.length_map, Nat.min_eq_left hi]
    exact List.take_of_length_le (by simp)
  refine we_op (we_op (we_slA (we_var e5 (wo_no (wo_part (we_var e6 ⟨_, rfl, ?_⟩))))))
  refine ⟨_, rfl, ?_⟩
  rw [c1, row_mk]
  refine we_tup (wa_cons (we_var e3 (wa_nil ⟨fits_1, ?_⟩)))
  rw [show mkTup [D.im (.int (j : Int))] = rowD [j] from rfl]
  refine WP.eq (cat_rowN (by simp; omega) hd) ?_
  refine we_slA (we_var e5 (wo_part (we_var e6 ⟨_, rfl, wo_no ⟨_, rfl, ?_⟩⟩)))
  rw [c2, row_mk]
  refine WP.eq (cat_row (by simp) (by simp; omega) hd) ?_
  simpa using q
end T61
namespace T61
open PySem L2 Bd Bt Sm
local macro_rules | `(tactic| sizeOf_list_dec) => `(tactic| first | (with_reducible refine thenS_nx ?_; try dsimp only [List.set_cons_zero, List.set_cons_succ, List.map_cons, List.map_nil, List.cons_append, List.nil_append, List.replicate, Nat.reduceSub, Int.reduceToNat]) | with_reducible refine thenS_rt ?_ | with_reducible refine ws_seq ?_ | with_reducible refine ws_set ?_ | with_reducible refine ws_ret ?_ | with_reducible refine ws_drop ?_ | with_reducible refine ws_next ?_ | with_reducible refine ws_ifn ?_ | with_reducible refine ws_par ?_ | with_reducible refine ws_lput ?_ | with_reducible refine ws_for ?_ | with_reducible refine we_var (d := _) rfl ?_ | with_reducible refine we_c ?_ | with_reducible refine we_op ?_ | with_reducible refine we_tup ?_ | with_reducible refine we_new ?_ | with_reducible refine we_hid ?_ | with_reducible refine we_ixH ?_ | with_reducible refine we_cb ?_ | with_reducible refine we_mt ?_ | with_reducible refine we_callG ?_ | with_reducible refine we_dnew ?_ | with_reducible refine wt_test ?_ | with_reducible refine wt_not ?_ | with_reducible refine wt_and ?_ | with_reducible refine wt_or ?_ | with_reducible refine wt_yes ?_ | with_reducible refine wa_nil ?_ | with_reducible refine wa_cons ?_ | with_reducible refine wa_lst ?_ | with_reducible refine wa_comp ?_ | with_reducible refine wi_R ?_ | with_reducible refine wi_R2 ?_ | with_reducible refine wi_T ?_ | with_reducible refine wi_H ?_ | with_reducible refine wi_L ?_ | with_reducible refine wp_add ?_ | with_reducible refine wp_sub ?_ | with_reducible refine wp_lt ?_ | with_reducible refine wp_le ?_ | with_reducible refine wp_gt ?_ | with_reducible refine wp_ge ?_ | with_reducible refine wp_eqI ?_ | with_reducible refine wp_neI ?_ | with_reducible refine wp_eqX ?_ | with_reducible refine wp_neX ?_ | with_reducible refine wp_max2 ?_ | with_reducible refine wp_min2 ?_ | with_reducible refine ⟨_, rfl, ?_⟩ | refine wp_ix rfl (at_0 _ _) ?_ | refine wp_ix rfl (at_1 _ _ _) ?_ | refine wp_ix rfl (at_2 _ _ _ _) ?_ | refine ⟨_, _, _, _, rfl, rfl, rfl, rfl, ?_⟩ | refine ⟨⟨_, rfl⟩, ?_⟩ | refine ⟨fits_2, ?_⟩ | refine ⟨fits_3, ?_⟩ | refine ⟨fits_4, ?_⟩ | refine ⟨fits_5, ?_⟩ | refine ⟨fits_0, ?_⟩ | refine ⟨fits_1, ?_⟩ | with_reducible refine we_nilEN ?_)
theorem geq (h : Hd) (x : MO) : (h ++ [x])[h.length]? = some x := by simp
theorem seq_ (h : Hd) (x y : MO) : (h ++ [x]).set h.length y = h ++ [y] := by simp
theorem glt {h : Hd} {p : Nat} {x y : MO} (e : h[p]? = some x) : (h ++ [y])[p]? = some x := by
  rw [List.getElem?_append_left (List.getElem?_eq_some_iff.mp e).1]; exact e
def OrdP (n : Nat) (S : List (List Nat)) : Prop := S ≠ [] /\ S.length <= 1000 /\ (∀ r ∈ S, r.Perm (List.range n)) /\ (n < 6 -> ∀ r : List Nat, r.Perm (List.range n) -> r ∈ S)
theorem perms_ne : ∀ n, perms n ≠ [] := fun n h => by
  have := perms_all n (List.range n) (List.Perm.refl _)
  rw [h] at this; simp at this
theorem orders_w {n : Nat} (h1 : 1 <= n) (hn : n <= 8) : ∀ a b, T 0 a b -> WF F_orders [.mu 1, .im (.int (n : Int))] [a, b] fun d x => ∃ k S a' b' g, d = .mu k /\ 2 <= k /\ x = a' :: b' :: g /\ x[k]? = some (.lst (S.map rowD)) /\ T 0 a' b' /\ OrdP n S := by
  intro a b hT
  unfold F_orders
  refine wf_mk rfl ?_
  refine ws_seq (ws_set (we_new (wa_lst (wa_cons (we_tup (wa_nil ⟨fits_0, wa_nil ⟨fits_1, thenS_nx ?_⟩⟩))))))
  change WS _ [some (.mu 1), some (.im (.int (n : Int))), some (.mu 2), none, none, none, none, none, none, none] [a, b, .lst [rowD []]] _
  refine ws_seq (ws_ifn (wt_test (we_op (we_var rfl (we_c (wp_lt ⟨_, rfl, ?_⟩))))))
  refine ⟨fun h6 => ?_, fun h6 => ws_next (thenS_nx ?_)⟩
  · have h6 : n < 6 := by have := of_decide_eq_true h6; omega
    refine ws_seq (ws_for (wi_R (wa_cons (we_var rfl (wa_nil ⟨_, rfl, rng1_of (by omega) (by omega), ?_⟩)))))
    rw [Int.toNat_natCast]
    refine wl_inv (fun r ls hd => ∃ (j p : Nat) (a b : MO) (g : Hd) (z3 z4 z5 z6 : Option D), r = rangeD (j : Int) (n - j) /\ j <= n /\ 2 <= p /\ hd[p]? = some (.lst ((perms j).map rowD)) /\ ls = [some (.mu 1), some (.im (.int (n : Int))), some (.mu p), z3, z4, z5, z6, none, none, none] /\ hd = a :: b :: g /\ T 0 a b) ⟨0, 2, a, b, _, none, none, none, none, rfl, by omega, by omega, rfl, rfl, rfl, hT⟩ ?_ ?_
    · rintro d r ls hd ⟨j, p, a, b, g, z3, z4, z5, z6, er, hj, hp, ep, rfl, rfl, hT⟩
      obtain ⟨m, hm⟩ : ∃ m, n - j = m + 1 := by
        cases q : n - j with
        | zero => rw [q] at er; cases er
        | succ m => exact ⟨m, rfl⟩
      rw [hm, rangeD] at er
      obtain ⟨rfl, rfl⟩ := List.cons.inj er
      refine ⟨_, rfl, ?_⟩
      dsimp only [List.set_cons_zero, List.set_cons_succ]
      generalize hh : (a :: b :: g) = h0 at ep ⊢
      refine ws_seq (ws_set (we_new (wa_lst (wa_nil ⟨fits_0, thenS_nx ?_⟩))))
      change WS _ [some (.mu 1), some (.im (.int (n : Int))), some (.mu p), some (.im (.int (j : Int))), some (.mu h0.length), z5, z6, none, none, none] (h0 ++ [.lst []]) _
      have tot : (perms (j + 1)).length <= 120 := perms_len (j + 1) (by omega)
      refine ws_seq (ws_for (wi_L (we_var rfl ⟨p, _, rfl, glt ep, ?_⟩)))
      refine wl_inv (fun r ls hd => ∃ (dn rest : List (List Nat)) (z5 z6 : Option D), perms j = dn ++ rest /\ r = rest.map rowD /\ ls = [some (.mu 1), some (.im (.int (n : Int))), some (.mu p), some (.im (.int (j : Int))), some (.mu h0.length), z5, z6, none, none, none] /\ hd = h0 ++ [.lst ((dn.flatMap (ins j)).map rowD)]) ⟨[], perms j, _, _, rfl, rfl, rfl, rfl⟩ ?_ ?_
      · rintro d r ls hd ⟨dn, rest, z5, z6, eS, er', rfl, rfl⟩
        cases rest with
        | nil => cases er'
        | cons u rest =>
          obtain ⟨rfl, rfl⟩ := List.cons.inj er'
          have hu := perms_perm j u (by rw [eS]; simp)
          have ul : u.length = j := by simpa using hu.length_eq
          have lt : (dn.flatMap (ins j)).length + (ins j u).length <= 120 := by
            have e : perms (j + 1) = dn.flatMap (ins j) ++ (ins j u ++ rest.flatMap (ins j)) := by rw [perms, eS, List.flatMap_append, List.flatMap_cons]
            rw [e] at tot
            simp only [List.length_append] at tot
            omega
          refine ⟨_, rfl, ?_⟩
          dsimp only [List.set_cons_zero, List.set_cons_succ]
          refine ws_for (wi_R (wa_cons (we_op (we_cb (wa_cons (we_var rfl (wa_nil ?_)))))))
          refine wp_f1 (z := .im (.int (u.length : Int))) (tv u) (by simp [kLen]) ?_
          refine we_c (wp_add (wa_nil ⟨_, rfl, rng1_of (by omega) (by omega), ?_⟩))
          rw [show ((u.length : Int) + 1).toNat = u.length + 1 by omega]
          refine wl_inv (fun r ls hd => ∃ (i : Nat) (z6 : Option D), r = rangeD (i : Int) (u.length + 1 - i) /\ i <= u.length + 1 /\ ls = [some (.mu 1), some (.im (.int (n : Int))), some (.mu p), some (.im (.int (j : Int))), some (.mu h0.length), some (rowD u), z6, none, none, none] /\ hd = h0 ++ [.lst ((dn.flatMap (ins j) ++ (List.range i).map fun i => u.take i ++ j :: u.drop i).map rowD)]) ⟨0, _, rfl, by omega, rfl, by simp⟩ ?_ ?_
          · rintro d r ls hd ⟨i, z6, er', hi, rfl, rfl⟩
            obtain ⟨m', hm'⟩ : ∃ m, u.length + 1 - i = m + 1 := by
              cases q : u.length + 1 - i with
              | zero => rw [q] at er'; cases er'
              | succ m => exact ⟨m, rfl⟩
            rw [hm', rangeD] at er'
            obtain ⟨rfl, rfl⟩ := List.cons.inj er'
            refine ⟨_, rfl, ?_⟩
            dsimp only [List.set_cons_zero, List.set_cons_succ]
            refine ws_drop (we_mt (we_var rfl ⟨⟨_, by rw [lv_mu, geq]⟩, wa_cons (ins_w (r := u) (i := i) (j := j) (by omega) (by omega) rfl rfl rfl (wa_nil ?_))⟩))
            have il : (ins j u).length = u.length + 1 := by simp [ins]
            refine wp_app (geq _ _) (fitsL_of (by simp at lt ⊢; omega)) ?_
            rw [seq_]
            refine ⟨gok_nil _, i + 1, _, by rw [show ((i : Int) + 1) = ((i + 1 : Nat) : Int) by omega, show m' = u.length + 1 - (i + 1) by omega], by omega, rfl, ?_⟩
            rw [List.range_succ]
            simp
          · rintro ls hd ⟨i, z6, er', hi, rfl, rfl⟩
            have hi' : i = u.length + 1 := by
              cases q : u.length + 1 - i with
              | zero => omega
              | succ m => rw [q] at er'; cases er'
            subst hi'
            refine ⟨by intro q hq; rw [List.mem_singleton] at hq; subst hq; exact glt ep, dn ++ [u], rest, _, _, by rw [eS]; simp, rfl, rfl, ?_⟩
            rw [List.flatMap_append]
            simp [ins]
      · rintro ls hd ⟨dn, rest, z5, z6, eS, er', rfl, rfl⟩
        have : rest = [] := by cases rest with
          | nil => rfl
          | cons _ _ => cases er'
        subst this
        rw [List.append_nil] at eS
        refine thenS_nx (ws_set (we_var rfl ?_))
        dsimp only [List.set_cons_zero, List.set_cons_succ]
        subst hh
        refine ⟨gok_nil _, j + 1, (a :: b :: g).length, a, b, g ++ [_], _, _, _, _, by rw [show ((j : Int) + 1) = ((j + 1 : Nat) : Int) by omega, show m = n - (j + 1) by omega], by omega, by simp, ?_, rfl, rfl, hT⟩
        rw [geq, <- eS]
        rfl
    · rintro ls hd ⟨j, p, a, b, g, z3, z4, z5, z6, er, hj, hp, ep, rfl, rfl, hT⟩
      have hj' : j = n := by
        cases q : n - j with
        | zero => omega
        | succ m => rw [q] at er; cases er
      subst hj'
      refine thenS_nx (ws_ret (we_var rfl ?_))
      exact ⟨p, perms j, a, b, g, rfl, hp, rfl, ep, hT, perms_ne j, by have := perms_len j (by omega); omega, perms_perm j, fun _ => perms_all j⟩
  · have h6 : 6 <= n := by have := of_decide_eq_false h6; omega
    refine ws_seq (ws_for (wi_R (wa_cons (we_c (wa_nil ⟨_, rfl, rng1_of (by decide) (by decide), ?_⟩)))))
    refine wl_inv (fun r ls hd => ∃ (S : List (List Nat)) (j : Nat) (a b : MO) (z3 z4 z5 z6 z7 z8 z9 : Option D), r = rangeD (j : Int) (24 - j) /\ j <= 24 /\ S.length = j /\ (∀ r ∈ S, r.Perm (List.range n)) /\ ls = [some (.mu 1), some (.im (.int (n : Int))), some (.mu 2), z3, z4, z5, z6, z7, z8, z9] /\ hd = [a, b, .lst (([] :: S).map rowD)] /\ T 0 a b) ⟨[], 0, a, b, none, none, none, none, none, none, none, rfl, by omega, rfl, by simp, rfl, rfl, hT⟩ ?_ ?_
    · rintro d r ls hd ⟨S, j, a, b, z3, z4, z5, z6, z7, z8, z9, er, hj, lS, hS, rfl, rfl, hT⟩
      obtain ⟨m, hm⟩ : ∃ m, 24 - j = m + 1 := by
        cases q : 24 - j with
        | zero => rw [q] at er; cases er
        | succ m => exact ⟨m, rfl⟩
      rw [hm, rangeD] at er
      obtain ⟨rfl, rfl⟩ := List.cons.inj er
      refine ⟨_, rfl, ?_⟩
      dsimp only [List.set_cons_zero, List.set_cons_succ]
      refine ws_trimD ?_
      refine ws_seq (ws_par (wa_cons (we_new (wa_rng1 (k := (n : Int)) (by simp) (rngL1_of (by omega) (by omega)) ?_))))
      rw [Int.toNat_natCast, range_natD]
      refine wa_cons (we_new (wa_lst (wa_nil ⟨fits_0, wa_nil ⟨rfl, thenS_nx ?_⟩⟩)))
      change WS _ [some (.mu 1), some (.im (.int (n : Int))), some (.mu 2), z3, z4, some (.mu 4), z6, some (.im (.int (j : Int))), some (.mu 3), z9] [a, b, .lst (([] :: S).map rowD), .lst (natD (List.range n)), .lst []] _
      refine ws_seq (ws_for (wi_R (wa_cons (we_var rfl (wa_nil ⟨_, rfl, rng1_of (by omega) (by omega), ?_⟩)))))
      rw [Int.toNat_natCast]
      refine wl_inv (fun r ls hd => ∃ (L R : List Nat) (i : Nat) (a b : MO) (z9 : Option D), r = rangeD (i : Int) (n - i) /\ i <= n /\ R.length = i /\ (R ++ L).Perm (List.range n) /\ ls = [some (.mu 1), some (.im (.int (n : Int))), some (.mu 2), z3, z4, some (.mu 4), z6, some (.im (.int (j : Int))), some (.mu 3), z9] /\ hd = [a, b, .lst (([] :: S).map rowD), .lst (natD L), .lst (natD R)] /\ T 0 a b) ⟨List.range n, [], 0, a, b, _, rfl, by omega, rfl, by simp, rfl, rfl, hT⟩ ?_ ?_
      · rintro d r ls hd ⟨L, R, i, a, b, z9, er', hi, lR, pm, rfl, rfl, hT⟩
        obtain ⟨m', hm'⟩ : ∃ m, n - i = m + 1 := by
          cases q : n - i with
          | zero => rw [q] at er'; cases er'
          | succ m => exact ⟨m, rfl⟩
        rw [hm', rangeD] at er'
        obtain ⟨rfl, rfl⟩ := List.cons.inj er'
        have pl := pm.length_eq
        simp only [List.length_append, List.length_range] at pl
        refine ⟨_, rfl, ?_⟩
        dsimp only [List.set_cons_zero, List.set_cons_succ]
        repeat sizeOf_list_dec
        refine tap.draw (many := (L.length : Int)) (rest := [.lst (([] :: S).map rowD), .lst (natD L), .lst (natD R)]) (n := 0) hT (by simp [kLen]) (by omega) (by omega) fun r a b hT pr qr => ?_
        repeat sizeOf_list_dec
        have hr : r.toNat < L.length := by omega
        have e1 : L[r.toNat]? = some L[r.toNat] := by simp [hr]
        refine wp_popAt rfl (rng1_of (by omega) (by omega)) (ixN_nat (n := (natD L).length) pr (by simp; omega)) (by simp [e1]; rfl) ?_
        repeat sizeOf_list_dec
        refine wp_app rfl (fitsL_of (by simp; omega)) ?_
        repeat sizeOf_list_dec
        have er2 : (natD L).eraseIdx r.toNat = natD (L.eraseIdx r.toNat) := erase_map _ _ _
        have es : natD R ++ [D.im (.int ((L[r.toNat] : Nat) : Int))] = natD (R ++ [L[r.toNat]]) := by simp [natD]
        refine ⟨gok_nil _, L.eraseIdx r.toNat, R ++ [L[r.toNat]], i + 1, a, b, _, by rw [show ((i : Int) + 1) = ((i + 1 : Nat) : Int) by omega, show m' = n - (i + 1) by omega], by omega, by simp [lR], ?_, rfl, ?_, hT⟩
        · have p1 : (L[r.toNat] :: L.eraseIdx r.toNat).Perm L := perm_erase e1
          rw [List.append_assoc]
          exact ((List.Perm.refl R).append p1).trans pm
        · rw [<- er2, <- es]; rfl
      · rintro ls hd ⟨L, R, i, a, b, z9, er', hi, lR, pm, rfl, rfl, hT⟩
        have hi' : i = n := by
          cases q : n - i with
          | zero => omega
          | succ m => rw [q] at er'; cases er'
        have pl := pm.length_eq
        simp only [List.length_append, List.length_range] at pl
        have hL : L = [] := List.length_eq_zero_iff.mp (by omega)
        subst hL
        rw [List.append_nil] at pm
        refine thenS_nx ?_
        refine ws_drop (we_mt (we_var rfl ⟨⟨_, rfl⟩, wa_cons (we_cb (wa_cons (we_var rfl (wa_nil (wp_f1 (ds := natD R) rfl rfl ?_)))))⟩))
        refine wa_nil (wp_app (ds := ([] :: S).map rowD) rfl (fitsL_of (by simp; omega)) ?_)
        have ca := tap.cl hT
        have er3 : mkTup (natD R) = rowD R := by rw [<- row_mk]; simp [natD]; rfl
        rw [er3]
        refine ⟨?_, _, rfl, gok_nil _, S ++ [R], j + 1, a, b, _, _, _, _, _, _, _, by rw [show ((j : Int) + 1) = ((j + 1 : Nat) : Int) by omega, show m = 24 - (j + 1) by omega], by omega, by simp [lS], ?_, rfl, ?_, hT⟩
        · have c1 := clO_mono (show 2 <= 3 by omega) ca.1
          have c2 := clO_mono (show 2 <= 3 by omega) ca.2
          have c3 : ∀ l : List (List Nat), clDs 3 (l.map rowD) = true := by
            intro l
            induction l with
            | nil => rfl
            | cons x r ih => simp only [List.map_cons, clDs, clD, ih, Bool.and_self]
          have c4 : clDs 3 (([] :: S).map rowD ++ [rowD R]) = true := by have := c3 (([] :: S) ++ [R]); simpa using this
          show (clO 3 a && (clO 3 b && (clDs 3 (([] :: S).map rowD ++ [rowD R]) && true))) = true
          rw [c1, c2, c4]; rfl
        · intro r hr
          rcases List.mem_append.mp hr with h | h
          · exact hS r h
          · rw [List.mem_singleton] at h; subst h; exact pm
        · simp
    · rintro ls hd ⟨S, j, a, b, z3, z4, z5, z6, z7, z8, z9, er, hj, lS, hS, rfl, rfl, hT⟩
      have hj' : j = 24 := by
        cases q : 24 - j with
        | zero => omega
        | succ m => rw [q] at er; cases er
      refine thenS_nx (ws_ret (we_new (wa_slL (we_var rfl (wo_part (we_c ⟨_, rfl, wo_no ⟨_, rfl, ?_⟩⟩))))))
      have ct : cutD (([] :: S).map rowD) (some 1) none = S.map rowD := by
        simp [cutD, HT.sIx]
        exact List.take_of_length_le (by simp)
      rw [ct]
      exact ⟨3, S, a, b, _, rfl, by omega, rfl, rfl, hT, by intro h; rw [h] at lS; simp at lS; omega, by omega, hS, fun h => by omega⟩
end T61
namespace T61
open PySem L2 Bd Bt Sm
local macro_rules | `(tactic| sizeOf_list_dec) => `(tactic| first | (with_reducible refine thenS_nx ?_; try dsimp only [List.set_cons_zero, List.set_cons_succ, List.map_cons, List.map_nil, List.cons_append, List.nil_append, List.replicate, Nat.reduceSub, Int.reduceToNat]) | with_reducible refine thenS_rt ?_ | with_reducible refine ws_seq ?_ | with_reducible refine ws_set ?_ | with_reducible refine ws_ret ?_ | with_reducible refine ws_drop ?_ | with_reducible refine ws_next ?_ | with_reducible refine ws_ifn ?_ | with_reducible refine ws_par ?_ | with_reducible refine ws_lput ?_ | with_reducible refine ws_for ?_ | with_reducible refine we_var (d := _) rfl ?_ | with_reducible refine we_c ?_ | with_reducible refine we_op ?_ | with_reducible refine we_tup ?_ | with_reducible refine we_new ?_ | with_reducible refine we_hid ?_ | with_reducible refine we_ixH ?_ | with_reducible refine we_cb ?_ | with_reducible refine we_mt ?_ | with_reducible refine we_callG ?_ | with_reducible refine we_dnew ?_ | with_reducible refine wt_test ?_ | with_reducible refine wt_not ?_ | with_reducible refine wt_and ?_ | with_reducible refine wt_or ?_ | with_reducible refine wt_yes ?_ | with_reducible refine wa_nil ?_ | with_reducible refine wa_cons ?_ | with_reducible refine wa_lst ?_ | with_reducible refine wa_comp ?_ | with_reducible refine wi_R ?_ | with_reducible refine wi_R2 ?_ | with_reducible refine wi_T ?_ | with_reducible refine wi_H ?_ | with_reducible refine wi_L ?_ | with_reducible refine wp_add ?_ | with_reducible refine wp_sub ?_ | with_reducible refine wp_lt ?_ | with_reducible refine wp_le ?_ | with_reducible refine wp_gt ?_ | with_reducible refine wp_ge ?_ | with_reducible refine wp_eqI ?_ | with_reducible refine wp_neI ?_ | with_reducible refine wp_eqX ?_ | with_reducible refine wp_neX ?_ | with_reducible refine wp_max2 ?_ | with_reducible refine wp_min2 ?_ | with_reducible refine ⟨_, rfl, ?_⟩ | refine wp_ix rfl (at_0 _ _) ?_ | refine wp_ix rfl (at_1 _ _ _) ?_ | refine wp_ix rfl (at_2 _ _ _ _) ?_ | refine ⟨_, _, _, _, rfl, rfl, rfl, rfl, ?_⟩ | refine ⟨⟨_, rfl⟩, ?_⟩ | refine ⟨fits_2, ?_⟩ | refine ⟨fits_3, ?_⟩ | refine ⟨fits_4, ?_⟩ | refine ⟨fits_5, ?_⟩ | refine ⟨fits_0, ?_⟩ | refine ⟨fits_1, ?_⟩ | with_reducible refine we_nilEN ?_)
theorem eqvAll_ints : ∀ ns : List Int, PyData.eqvAll (ns.map PyData.int) (ns.map PyData.int) = true
  | [] => by simp [PyData.eqvAll]
  | n :: r => by simp [PyData.eqvAll, PyData.eqv, eqvAll_ints r]
theorem depth_ints : ∀ ns : List Int, PyData.depthAll (ns.map PyData.int) = 0
  | [] => by simp [PyData.depthAll]
  | n :: r => by simp [PyData.depthAll, PyData.depth, depth_ints r]
theorem cmp_same (ns : List Int) (hd : Hd) (neg : Bool) : eqvP neg (.list (ns.map PyData.int)) (.list (ns.map PyData.int)) hd = some (.im (.bl (!neg)), hd) := by
  unfold eqvP
  rw [if_pos]
  · simp [PyData.eqv, eqvAll_ints]
  · refine ⟨lay_ints ns, lay_ints ns, ?_⟩
    simp [PyData.depth, depth_ints]
theorem we_sameNN {neg : Bool} {ma ml : MA} {ls : Ls} {hd : Hd} {QE : D -> Hd -> Prop} (h : WA ma ls hd fun ds x => WA ml ls x fun es y => ∃ ns : List Int, ds = intD ns /\ es = intD ns /\ QE (.im (.bl (!neg))) y) : WE (mEqNN neg ma ml) ls hd QE := by
  obtain ⟨ds, x, e1, es, y, e2, ns, rfl, rfl, q⟩ := h
  refine ⟨_, y, ?_, q⟩
  unfold mEqNN
  rw [e1]
  simp only [Option.bind_some, e2]
  simp only [intD, allIm_ints, Option.bind_some, pys_ints, cmp_same]
theorem wa_sorted {mi : MI} {ls : Ls} {hd : Hd} {QA : List D -> Hd -> Prop} (h : WI mi ls hd fun p x => ∃ ns : List Int, p.1 = intD ns /\ ns.length < 64 /\ QA (intD (sortI ns)) x) : WA (mSorted mi) ls hd QA := by
  obtain ⟨p, x, e, ns, e1, hl, q⟩ := h
  have : intsD (intD ns) = some ns := by
    clear hl q e1
    induction ns with
    | nil => rfl
    | cons n r ih => simp [intD] at ih ⊢
  refine ⟨_, _, ?_, q⟩
  simp only [mSorted, e, Option.bind_some, e1, this, hl, if_true]
theorem sort_range {row : List Nat} {n : Nat} (pm : row.Perm (List.range n)) : sortI (row.map fun k : Nat => (k : Int)) = (List.range n).map fun k : Nat => (k : Int) := by
  refine perm_sorted_eq ((sortI_perm _).trans (pm.map _)) (sortI_sorted _) ?_
  rw [List.pairwise_map]
  exact List.pairwise_le_range.imp fun h => by omega
theorem minI_of {ns : List Int} (hne : ns ≠ []) : ∃ m, kMin (intD ns) = some (.im (.int m)) /\ m ∈ ns /\ ∀ x ∈ ns, m <= x := by
  have e : intsD (intD ns) = some ns := by
    clear hne
    induction ns with
    | nil => rfl
    | cons n r ih => simp [intD] at ih ⊢
  obtain ⟨m1, m2⟩ := minI_spec hne
  exact ⟨minI ns, by unfold kMin; rw [e]; simp [hne], m1, m2⟩
abbrev Pc := Nat × Int × Int
theorem endsL_keep : ∀ (P : List Pc) (es : List Int) (k : Nat), k ∉ P.map (·.1) -> (endsL es P)[k]? = es[k]?
  | [], es, k, _ => rfl
  | p :: r, es, k, h => by
    simp only [List.map_cons, List.mem_cons, not_or] at h
    rw [endsL, endsL_keep r _ k h.2, List.getElem?_set_ne (fun q => h.1 q.symm)]
theorem endsL_at : ∀ (P : List Pc) (es : List Int), (P.map (·.1)).Nodup -> (∀ p ∈ P, p.1 < es.length) -> ∀ p ∈ P, (endsL es P)[p.1]? = some p.2.2
  | [], es, _, _, p, hp => by simp at hp
  | q :: r, es, nd, hl, p, hp => by
    simp only [List.map_cons, List.nodup_cons] at nd
    rw [endsL]
    rcases List.mem_cons.mp hp with rfl | hp
    · rw [endsL_keep r _ _ nd.1, List.getElem?_set_self (hl p (by simp))]
    · exact endsL_at r _ nd.2 (fun x hx => by simpa using hl x (by simp [hx])) p hp
theorem wk_at {c : Int} {ws : List (Int × Int)} {k : Nat} (hk : k < ws.length) : (ws.map (wk c))[k]? = some (wk c (lf ws k, wf ws k)) := by simp [hk, lf, wf]
theorem run_cons {c : Int} {ws : List (Int × Int)} {k : Nat} (hk : k < ws.length) (r : List Nat) (t : Int) : runL (ws.map (wk c)) (k :: r) t = (k, max t c, max t c + lf ws k) :: runL (ws.map (wk c)) r (max t c + lf ws k) := by
  have h : (if t > c then t else c) = max t c := by split <;> omega
  rw [runL, wk_at hk]
  simp only [h]
theorem run_fst {c : Int} {ws : List (Int × Int)} : ∀ (ks : List Nat) (t : Int), (∀ k ∈ ks, k < ws.length) -> (runL (ws.map (wk c)) ks t).map (·.1) = ks
  | [], t, _ => rfl
  | k :: r, t, h => by rw [run_cons (h k (by simp)), List.map_cons, run_fst r _ fun x hx => h x (by simp [hx])]
theorem run_cst {c : Int} {ws : List (Int × Int)} (W : WOk c ws) : ∀ (ks : List Nat) (t f : Int), (∀ k ∈ ks, k < ws.length) -> f + ((runL (ws.map (wk c)) ks t).map fun p => wf ws p.1 * p.2.2).sum = cst (lf ws) (wf ws) ks (max t c) f
  | [], t, f, _ => by simp [runL, cst]
  | k :: r, t, f, h => by
    have hk := h k (by simp)
    have b := lf_pos W hk
    rw [run_cons hk, List.map_cons, List.sum_cons, cst, <- Int.add_assoc]
    have ih := run_cst W r (max t c + lf ws k) (f + wf ws k * (max t c + lf ws k)) fun x hx => h x (by simp [hx])
    rw [show max (max t c + lf ws k) c = max t c + lf ws k by omega] at ih
    exact ih
theorem sumP (w : Nat -> Int) (es : List Int) : ∀ P : List Pc, (∀ p ∈ P, es[p.1]? = some p.2.2) -> Sm.sm (fun k => w k * (es[k]?).getD 0) (P.map (·.1)) = (P.map fun p => w p.1 * p.2.2).sum
  | [], _ => rfl
  | p :: r, h => by
    simp only [List.map_cons, Sm.sm, List.sum_cons]
    rw [sumP w es r fun q hq => h q (by simp [hq]), h p (by simp)]
    rfl
theorem run_cost {c : Int} {ws : List (Int × Int)} (W : WOk c ws) {ks : List Nat} (pm : ks.Perm (List.range ws.length)) : (costsL (ws.map (wk c)) (endsL (List.replicate ws.length 0) (runL (ws.map (wk c)) ks 0))).sum = cst (lf ws) (wf ws) ks c 0 := by
  have hk : ∀ k ∈ ks, k < ws.length := fun k hk => by simpa using pm.mem_iff.mp hk
  have hf := run_fst (c := c) ks 0 hk
  generalize hP : runL (ws.map (wk c)) ks 0 = P at *
  have hat := endsL_at P (List.replicate ws.length 0) (by rw [hf]; exact pm.nodup_iff.mpr List.nodup_range) fun p hp => by
    have : p.1 ∈ ks := by rw [<- hf]; exact List.mem_map.mpr ⟨p, hp, rfl⟩
    simpa using hk p.1 this
  have el : (endsL (List.replicate ws.length 0) P).length = ws.length := by rw [endsL_len]; simp
  generalize endsL (List.replicate ws.length 0) P = es at *
  have e1 : costsL (ws.map (wk c)) es = (List.range ws.length).map fun k => wf ws k * (es[k]?).getD 0 := by
    refine List.ext_getElem? fun i => ?_
    unfold costsL
    rw [List.getElem?_zipWith]
    by_cases hi : i < ws.length
    · rw [wk_at hi, List.getElem?_eq_getElem (show i < es.length by omega)]
      simp [hi, Cost.at, show i < es.length by omega]
    · rw [List.getElem?_eq_none (by simp; omega), List.getElem?_eq_none (show ((List.range ws.length).map fun k => wf ws k * (es[k]?).getD 0).length <= i by simp; omega)]
  have s1 := sumP (wf ws) es P hat
  rw [hf] at s1
  rw [e1, sum_sm, <- sm_perm _ pm, s1, <- hP]
  have := run_cst W ks 0 0 hk
  rw [show max (0 : Int) c = c by have := W.c0; omega, Int.zero_add] at this
  exact this
theorem turn_w {c : Int} {ws : List (Int × Int)} (W : WOk c ws) {a b : MO} (hT : T 0 a b) {ns : List Int} {z2 : Option D} {z4 z5 z6 z7 : Option D} {Q : Fl -> Hd -> Prop} (hQ : ∀ a b g z4 z5 z6 z7, T 0 a b -> Q (.nx [some (.ro ns), some (.mu 1), z2, some (.im (wksI c ws)), z4, z5, z6, z7]) (a :: b :: g)) :
    WS (mSeq (mPar [4, 5] (mCons (mCallW 0 F_pair_sum (mCons (mVar 3) mNil)) (mCons (mCallW 0 F_ratio_order (mCons (mVar 3) mNil)) mNil)))
    (mSeq (mIfS (mOr (mNot (mTru (mIsi .int (mVar 4)))) (mOr (mTru (mIsi .bool (mVar 4))) (mNot (mTru (mIsi .tuple (mVar 5))))))
      (mRet (mC (.bl false)))
      mNext)
    (mSeq (mIfS (mOr (mTest (mEqNN true (mSorted (mItT (mVar 5))) (mRng (mCons (mCB (f1 true kLen) (mCons (mVar 3) mNil)) mNil)))) (mTest (mOp gNe (mCallW 0 F_cost (mCons (mVar 3) (mCons (mVar 5) mNil))) (mVar 4))))
      (mRet (mC (.bl false)))
      mNext)
    (mSeq (mSet 6 (mNew (mComp 1 [3] (mItL (mCallW 2 F_orders (mCons (mVar 1) (mCons (mCB (f1 true kLen) (mCons (mVar 3) mNil)) mNil)))) (nName 0) mYes (mCallW 0 F_cost (mCons (mVar 1) (mCons (mVar 0) mNil))))))
    (mSeq (mIfS (mOr (mTest (mOp gLt (mCB (f1 false kMin) (mCons (mVar 6) mNil)) (mVar 4))) (mAnd (mTest (mOp gLt (mCB (f1 true kLen) (mCons (mVar 3) mNil)) (mC (.int 6)))) (mTest (mOp gNe (mCB (f1 false kMin) (mCons (mVar 6) mNil)) (mVar 4)))))
      (mRet (mC (.bl false)))
      mNext)
    (mSeq (mSet 7 (mNew (mComp 3 [] (mItT (mVar 3)) (nTup 3 (nCons (nName 0) (nCons (nName 1) (nCons (nName 2) nNil)))) mYes (mAndV (mOp gLe (mVar 0) (mC (.int 20))) (mOp gLe (mOp gIx (mVar 2) (mC (.int 1))) (mC (.int 9)))))))
    (mIfS (mTest (mOp (gIn true) (mC (.bl false)) (mVar 7)))
      (mIfS (mTest (mOp gNe (mCallW 0 F_worth (mCons (mVar 3) (mCons (mCallW 0 F_ends_of (mCons (mVar 3) (mCons (mCallW 0 F_run (mCons (mVar 3) (mCons (mVar 5) mNil))) mNil))) (mCons (mC (.str "sum")) mNil)))) (mVar 4)))
      (mRet (mC (.bl false)))
      mNext)
      mNext))))))) [some (.ro ns), some (.mu 1), z2, some (.im (wksI c ws)), z4, z5, z6, z7] [a, b] Q := by
  have n1 := W.n1; have n8 := W.n8
  refine ws_seq (ws_par (wa_cons (we_call0 (wa_cons (we_var rfl (wa_nil ⟨by simp, (pair_sum_w W).mono ?_⟩))))))
  rintro d x rfl
  refine ⟨_, rfl, wa_cons (we_call0 (wa_cons (we_var rfl (wa_nil ⟨by simp, (order_w W).mono ?_⟩))))⟩
  rintro d x ⟨row, rfl, pm, pw⟩
  refine ⟨_, rfl, wa_nil ⟨rfl, thenS_nx ?_⟩⟩
  have hrow : ∀ k ∈ row, k < ws.length := fun k hk => by simpa using pm.mem_iff.mp hk
  have rl : row.length = ws.length := by simpa using pm.length_eq
  have hle := least_eq (lf ws) (wf ws) c pm (pw.imp fun h => h)
  have hall : ∀ ks : List Nat, ks.Perm (List.range ws.length) -> least (lf ws) (wf ws) c ws.length <= cst (lf ws) (wf ws) ks c 0 := fun ks h => least_le (lf ws) (wf ws) c h
  generalize hLS : least (lf ws) (wf ws) c ws.length = LS at *
  change WS _ [some (.ro ns), some (.mu 1), z2, some (.im (wksI c ws)), some (.im (.int LS)), some (.im (natsI row)), z6, z7] [a, b] Q
  refine ws_seq (ws_ifn (wt_or (wt_not (wt_tru (we_isi (we_var rfl ⟨_, rfl, _, rfl, ?_⟩))))))
  rw [if_neg (by simp)]
  refine wt_or (wt_tru (we_isi (we_var rfl ⟨_, rfl, _, rfl, ?_⟩)))
  rw [if_neg (by simp)]
  refine wt_not (wt_tru (we_isi (we_var rfl ⟨_, rfl, _, rfl, ?_⟩)))
  refine ⟨(fun h => by simp at h), fun _ => ws_next (thenS_nx ?_)⟩
  refine ws_seq (ws_ifn (wt_or (wt_test (we_sameNN (wa_sorted (wi_T (we_var rfl ⟨_, rfl, row.map fun k : Nat => (k : Int), by simp [intD], by simp; omega, ?_⟩)))))))
  rw [sort_range pm]
  refine wa_rng1 (k := (ws.length : Int)) (by simp [kLen]) (rngL1_of (by omega) (by omega)) ?_
  rw [Int.toNat_natCast, range_natD]
  refine ⟨_, rfl, by simp [natD, intD], _, rfl, ?_⟩
  rw [if_neg (by simp)]
  refine wt_test (we_op (we_call0 (wa_cons (we_var rfl (wa_cons (we_var rfl (wa_nil ⟨by simp, (cost_w W hrow).mono ?_⟩)))))))
  rintro d x ⟨rfl, rfl⟩
  refine ⟨_, rfl, we_var rfl (wp_neI ⟨_, rfl, ?_⟩)⟩
  rw [hle]
  refine ⟨(fun h => by simp at h), fun _ => ws_next (thenS_nx ?_)⟩
  refine ws_seq (ws_set (we_new (wa_comp (wi_L (callTL (rest := []) (by simp [kLen]) hT (by simp) ((orders_w n1 n8 a b hT).mono ?_))))))
  rintro d x ⟨k, S, a', b', g, rfl, hk, rfl, ek, hT, Sn, Sl, Sp, Sa⟩
  have cS : ∀ l : List (List Nat), clDs 2 (l.map rowD) = true := by
    intro l
    induction l with
    | nil => rfl
    | cons x r ih => simp only [List.map_cons, clDs, clD, ih, Bool.and_self]
  refine ⟨k, S.map rowD, a', b', g, rfl, hk, rfl, ek, cS S, hT, 2, S.map rowD, rfl, rfl, fits_of (by simp; omega), ?_⟩
  refine wc_map rowD (fun r => some (.im (.int (cst (lf ws) (wf ws) r c 0)))) (fun _ ls => ∃ x, ls = [some x, some (.im (wksI c ws))]) _ (by intro p hp; rw [List.mem_singleton] at hp; subst hp; rfl) ?_ ?_
  · rintro r hr ls hls
    refine ⟨[some (rowD r), some (.im (wksI c ws))], by rcases hls with rfl | ⟨_, x, rfl⟩ <;> rfl, ⟨_, rfl⟩, wt_yes ⟨rfl, ?_⟩⟩
    rw [if_pos rfl]
    refine ⟨_, rfl, we_call0 (wa_cons (we_var rfl (wa_cons (we_var rfl (wa_nil ⟨by simp, (cost_w W (fun k hk => by simpa using (Sp r hr).mem_iff.mp hk)).mono ?_⟩)))))⟩
    rintro d y ⟨rfl, rfl⟩
    exact ⟨_, rfl, rfl, rfl⟩
  have e1 : (S.filterMap fun r => some (D.im (.int (cst (lf ws) (wf ws) r c 0)))) = intD (S.map fun r => cst (lf ws) (wf ws) r c 0) := by simp [intD]
  rw [e1]
  refine thenS_nx ?_
  change WS _ [some (.ro ns), some (.mu 1), z2, some (.im (wksI c ws)), some (.im (.int LS)), some (.im (natsI row)), some (.mu 3), z7] [a', b', .lst (S.map rowD), .lst (intD (S.map fun r => cst (lf ws) (wf ws) r c 0))] Q
  obtain ⟨m, hm, m1, m2⟩ := minI_of (ns := S.map fun r => cst (lf ws) (wf ws) r c 0) (by simpa using Sn)
  have mLS : LS <= m := by
    obtain ⟨r, hr, rfl⟩ := List.mem_map.mp m1
    exact hall r (Sp r hr)
  refine ws_seq (ws_ifn (wt_or (wt_test (we_op (we_cb (wa_cons (we_var rfl (wa_nil (wp_f1 (ds := intD (S.map fun r => cst (lf ws) (wf ws) r c 0)) rfl hm ?_)))))))))
  refine we_var rfl (wp_lt ⟨_, rfl, ?_⟩)
  rw [if_neg (by simp; omega)]
  refine wt_and (wt_test (we_op (we_cb (wa_cons (we_var rfl (wa_nil (wp_f1 (ds := ((ws.map (wk c)).map workI).map D.im) (z := .im (.int (ws.length : Int))) rfl (by simp [kLen]) (we_c (wp_lt ⟨_, rfl, ?_⟩)))))))))
  have tail : WS (mSeq (mSet 7 (mNew (mComp 3 [] (mItT (mVar 3)) (nTup 3 (nCons (nName 0) (nCons (nName 1) (nCons (nName 2) nNil)))) mYes (mAndV (mOp gLe (mVar 0) (mC (.int 20))) (mOp gLe (mOp gIx (mVar 2) (mC (.int 1))) (mC (.int 9)))))))
    (mIfS (mTest (mOp (gIn true) (mC (.bl false)) (mVar 7)))
      (mIfS (mTest (mOp gNe (mCallW 0 F_worth (mCons (mVar 3) (mCons (mCallW 0 F_ends_of (mCons (mVar 3) (mCons (mCallW 0 F_run (mCons (mVar 3) (mCons (mVar 5) mNil))) mNil))) (mCons (mC (.str "sum")) mNil)))) (mVar 4)))
      (mRet (mC (.bl false)))
      mNext)
      mNext)) [some (.ro ns), some (.mu 1), z2, some (.im (wksI c ws)), some (.im (.int LS)), some (.im (natsI row)), some (.mu 3), z7] [a', b', .lst (S.map rowD), .lst (intD (S.map fun r => cst (lf ws) (wf ws) r c 0))] Q := by
    refine ws_seq (ws_set (we_new (wa_comp (wi_T (we_var rfl ⟨_, rfl, ?_⟩)))))
    rw [wk_map]
    refine ⟨fits_of (by simp; omega), ?_⟩
    refine wc_map (wkD c) (fun p => some (.im (.bl (decide (p.1 <= 20) && decide (p.2 <= 9))))) (fun _ ls => ∃ x y z, ls = [some x, some y, some z]) _ (gok_nil _) ?_ ?_
    · rintro p hp ls hls
      refine ⟨[some (.im (.int p.1)), some (.im (.int c)), some (.im (costI (.ends p.2)))], by rcases hls with rfl | ⟨_, x, y, z, rfl⟩ <;> rfl, ⟨_, _, _, rfl⟩, wt_yes ⟨rfl, ?_⟩⟩
      rw [if_pos rfl]
      refine ⟨_, rfl, we_andV (wt_test (we_op (we_var rfl (we_c (wp_le ⟨_, rfl, ?_⟩)))))⟩
      by_cases h : p.1 <= 20
      · rw [if_pos (by simpa using h)]
        refine we_op (we_op (we_var rfl (we_c (wp_ix rfl (at_1 _ _ _) (we_c (wp_le ⟨rfl, ?_⟩))))))
        simp [h]
      · rw [if_neg (by simpa using h)]
        exact ⟨rfl, by simp [h]⟩
    have e2 : (ws.filterMap fun p => some (D.im (.bl (decide (p.1 <= 20) && decide (p.2 <= 9))))) = blD (ws.map fun p => decide (p.1 <= 20) && decide (p.2 <= 9)) := by simp [blD]
    rw [e2]
    refine thenS_nx ?_
    generalize ws.map (fun p => decide (p.1 <= 20) && decide (p.2 <= 9)) = bs
    change WS _ [some (.ro ns), some (.mu 1), z2, some (.im (wksI c ws)), some (.im (.int LS)), some (.im (natsI row)), some (.mu 3), some (.mu 4)] [a', b', .lst (S.map rowD), .lst (intD (S.map fun r => cst (lf ws) (wf ws) r c 0)), .lst (blD bs)] Q
    refine ws_ifn (wt_test (we_op (we_c (we_var rfl ?_))))
    refine WP.eq (z := .im (.bl (!decide (false ∈ bs)))) (h := [a', b', .lst (S.map rowD), .lst (intD (S.map fun r => cst (lf ws) (wf ws) r c 0)), .lst (blD bs)]) ?_ ⟨_, rfl, ?_⟩
    · have sv : seqView [a', b', .lst (S.map rowD), .lst (intD (S.map fun r => cst (lf ws) (wf ws) r c 0)), .lst (blD bs)] (.mu 4) = some (blD bs) := rfl
      simp only [gIn, flatI, Option.bind_some, sv, flat_bls, Option.map_some, inV_bls, if_true]
    refine ⟨fun _ => ?_, fun _ => ws_next (hQ a' b' _ _ _ _ _ hT)⟩
    obtain ⟨g1, eg1⟩ := run_eq (ws.map (wk c)) row (by simpa using hrow) (by omega)
    have hfst := run_fst (c := c) row 0 hrow
    obtain ⟨g2, eg2⟩ := ends_of_eq (ws.map (wk c)) (runL (ws.map (wk c)) row 0) (fun p hp => by
      have : p.1 ∈ row := by rw [<- hfst]; exact List.mem_map.mpr ⟨p, hp, rfl⟩
      simpa using hrow p.1 this) (by simp; omega)
    have eg3 := worth_sum (ws.map (wk c)) (endsL (List.replicate (ws.map (wk c)).length 0) (runL (ws.map (wk c)) row 0)) (fun w hw => by
      obtain ⟨p, hp, rfl⟩ := List.mem_map.mp hw
      have := W.each p hp
      exact ⟨this.2.2.1, this.2.2.2⟩) (by simp; omega)
    refine ws_ifn (wt_test (we_op (we_call0 (wa_cons (we_var rfl (wa_cons (we_call0 ?_)))))))
    refine wa_cons (we_var rfl (wa_cons (we_call0 ?_)))
    refine wa_cons (we_var rfl (wa_cons (we_var rfl (wa_nil ⟨by simp, WP.eq (f_run ▸ eg1) ⟨_, rfl, ?_⟩⟩))))
    refine wa_nil ⟨by simp, WP.eq (f_ends ▸ eg2) ⟨_, rfl, ?_⟩⟩
    refine wa_cons (we_c (wa_nil ⟨by simp, WP.eq (f_worth ▸ eg3) ⟨_, rfl, ?_⟩⟩))
    refine we_var rfl (wp_neI ⟨_, rfl, ?_⟩)
    have rc := run_cost W pm
    rw [List.length_map, rc, hle]
    exact ⟨(fun h => by simp at h), fun _ => ws_next (hQ a' b' _ _ _ _ _ hT)⟩
  by_cases h6 : (ws.length : Int) < 6
  · rw [if_pos (by simpa using h6)]
    refine wt_test (we_op (we_cb (wa_cons (we_var rfl (wa_nil (wp_f1 (ds := intD (S.map fun r => cst (lf ws) (wf ws) r c 0)) rfl hm (we_var rfl (wp_neI ⟨_, rfl, ?_⟩))))))))
    have : m = LS := by
      have := m2 _ (List.mem_map.mpr ⟨row, Sa (by omega) row pm, rfl⟩)
      omega
    refine ⟨(fun h => by simp [this] at h), fun _ => ws_next (thenS_nx tail)⟩
  · rw [if_neg (by simpa using h6)]
    exact ⟨(fun h => by simp at h), fun _ => ws_next (thenS_nx tail)⟩
theorem callTW {F : List D -> Hd -> Option (D × Hd)} {m : MA} {ls : Ls} {hd : Hd} {QE : D -> Hd -> Prop} (h : WA m ls hd fun ds x => ∃ (a b : MO) (rest : Hd) (as : List D) (R : I -> Prop), x = a :: b :: rest /\ ds = .mu 1 :: as /\ T 0 a b /\ clDs 2 as = true /\ (∀ a b, T 0 a b -> WF F (.mu 1 :: as) [a, b] fun d x => ∃ i a' b' g, d = .im i /\ R i /\ T 0 a' b' /\ x = a' :: b' :: g) /\ ∀ i a' b', T 0 a' b' -> R i -> QE (.im i) (a' :: b' :: rest)) : WE (mCallW 2 F m) ls hd QE := by
  obtain ⟨ds, x, e, a, b, rest, as, R, rfl, rfl, hT, hc, hF, k⟩ := h
  exact tap.call (n := 0) (c := 0) hT e hc hF k
theorem law_w (ns : List Int) : WF F_law [.ro ns] [] fun d x => d = .im (.bl true) := by
  unfold F_law
  refine wf_mk rfl ?_
  repeat sizeOf_list_dec
  obtain ⟨τ, q⟩ := tape_eq ns
  refine WP.eq q ?_
  repeat sizeOf_list_dec
  refine ⟨rng1_of (by decide) (by decide), ?_⟩
  refine wl_inv (fun r ls hd => ∃ (a b : MO) (z2 z3 z4 z5 z6 z7 : Option D), ls = [some (.ro ns), some (.mu 1), z2, z3, z4, z5, z6, z7] /\ hd = [a, b] /\ T 0 a b) ?_ ?_ ?_
  · exact ⟨_, _, none, none, none, none, none, none, rfl, rfl, τ, rfl⟩
  · rintro d r ls hd ⟨a, b, z2, z3, z4, z5, z6, z7, rfl, rfl, hT⟩
    refine ⟨_, rfl, ?_⟩
    dsimp only [List.set_cons_zero, List.set_cons_succ]
    refine ws_trimD (ws_seq (ws_set (callTW (wa_cons (we_var rfl (wa_cons (we_op (we_c ?_))))))))
    refine tap.draw (n := 0) hT rfl (by decide) (by decide) fun r1 a b hT pr1 qr1 => ?_
    refine wp_add (wa_nil ?_)
    obtain ⟨n, hn, hn1, hn8⟩ : ∃ n : Nat, 1 + r1 = (n : Int) /\ 1 <= n /\ n <= 8 := ⟨(1 + r1).toNat, by omega, by omega, by omega⟩
    rw [hn]
    refine ⟨a, b, [], _, _, rfl, rfl, hT, by simp, works_w hn1 hn8, ?_⟩
    rintro i a b hT ⟨c, ws, rfl, rfl, W⟩
    refine thenS_nx (turn_w W hT fun a b g z4 z5 z6 z7 hT => ?_)
    have ca := tap.cl hT
    exact ⟨by simp [ca.1, ca.2], _, rfl, gok_nil _, a, b, _, _, _, _, _, _, rfl, rfl, hT⟩
  · rintro ls hd ⟨a, b, z2, z3, z4, z5, z6, z7, rfl, rfl, hT⟩
    repeat sizeOf_list_dec
    rfl
theorem law_eq (ns : List Int) : ∃ hd, F_law [.ro ns] [] = some (.im (.bl true), hd) := by
  obtain ⟨d, x, e, rfl⟩ := law_w ns
  exact ⟨x, e⟩
end T61
namespace T61
open PySem L2
theorem all_mk {l : PySem.W.OpenLaw} {w : World} {K : PySem.W.Frag} {h : Heap} {mg : Str -> Option Value} {fa f0 f1 f2 f3 f4 f5 f6 f7 f8 f9 f10 f11 f12 f13 f14 f15 f16 f17 f18 f19 f20 f21 f22 f23 f24 f25 : Addr} (X : K.In h) (G : h.Ns mainGlobals mg) (hfa : mg "law" = some (.ref fa))
    {od0 an0 od1 an1 od2 an2 od3 an3 od4 an4 od5 an5 od6 an6 od7 an7 od8 an8 od9 an9 od10 an10 od11 an11 od12 an12 od13 an13 od14 an14 od15 an15 od16 an16 od17 an17 od18 an18 od19 an19 od20 an20 od21 an21 od22 an22 od23 an23 od24 an24 od25 an25 : Option Addr} {sl0 sl1 sl2 sl3 sl4 sl5 sl6 sl7 sl8 sl9 sl10 sl11 sl12 sl13 sl14 sl15 sl16 sl17 sl18 sl19 sl20 sl21 sl22 sl23 sl24 sl25 : Array (Option Value)} {oc0 kV0 dc0 pm0 cd0 ct0 oc1 kV1 dc1 pm1 cd1 ct1 oc2 kV2 dc2 pm2 cd2 ct2 oc3 kV3 dc3 pm3 cd3 ct3 oc4 kV4 dc4 pm4 cd4 ct4 oc5 kV5 dc5 pm5 cd5 ct5 oc6 kV6 dc6 pm6 cd6 ct6 oc7 kV7 dc7 pm7 cd7 ct7 oc8 kV8 dc8 pm8 cd8 ct8 oc9 kV9 dc9 pm9 cd9 ct9 oc10 kV10 dc10 pm10 cd10 ct10 oc11 kV11 dc11 pm11 cd11 ct11 oc12 kV12 dc12 pm12 cd12 ct12 oc13 kV13 dc13 pm13 cd13 ct13 oc14 kV14 dc14 pm14 cd14 ct14 oc15 kV15 dc15 pm15 cd15 ct15 oc16 kV16 dc16 pm16 cd16 ct16 oc17 kV17 dc17 pm17 cd17 ct17 oc18 kV18 dc18 pm18 cd18 ct18 oc19 kV19 dc19 pm19 cd19 ct19 oc20 kV20 dc20 pm20 cd20 ct20 oc21 kV21 dc21 pm21 cd21 ct21 oc22 kV22 dc22 pm22 cd22 ct22 oc23 kV23 dc23 pm23 cd23 ct23 oc24 kV24 dc24 pm24 cd24 ct24 oc25 kV25 dc25 pm25 cd25 ct25 : Value}
    (a0 : PySem.W.nsIn K mainGlobals "law" = some (some (.ref f0))) (l0 : K.lookup f0 = some ⟨oc0, od0, .func (PySem.W.fnOf "law" "law" (defArgs s_law) (defBody s_law) (defScope s_law) .none kV0 dc0 pm0 an0 cd0 ct0), sl0⟩) (c0 : PySem.W.codeIn K cd0 "law" = true) (k0 : PySem.W.keepIn K (.ref f0) = true)
    (a1 : PySem.W.nsIn K mainGlobals "less" = some (some (.ref f1))) (l1 : K.lookup f1 = some ⟨oc1, od1, .func (PySem.W.fnOf "less" "less" (defArgs s_less) (defBody s_less) (defScope s_less) .none kV1 dc1 pm1 an1 cd1 ct1), sl1⟩) (c1 : PySem.W.codeIn K cd1 "less" = true) (k1 : PySem.W.keepIn K (.ref f1) = true)
    (a2 : PySem.W.nsIn K mainGlobals "falling" = some (some (.ref f2))) (l2 : K.lookup f2 = some ⟨oc2, od2, .func (PySem.W.fnOf "falling" "falling" (defArgs s_falling) (defBody s_falling) (defScope s_falling) .none kV2 dc2 pm2 an2 cd2 ct2), sl2⟩) (c2 : PySem.W.codeIn K cd2 "falling" = true) (k2 : PySem.W.keepIn K (.ref f2) = true)
    (a3 : PySem.W.nsIn K mainGlobals "same_coming" = some (some (.ref f3))) (l3 : K.lookup f3 = some ⟨oc3, od3, .func (PySem.W.fnOf "same_coming" "same_coming" (defArgs s_same_coming) (defBody s_same_coming) (defScope s_same_coming) .none kV3 dc3 pm3 an3 cd3 ct3), sl3⟩) (c3 : PySem.W.codeIn K cd3 "same_coming" = true) (k3 : PySem.W.keepIn K (.ref f3) = true)
    (a4 : PySem.W.nsIn K mainGlobals "one_coming" = some (some (.ref f4))) (l4 : K.lookup f4 = some ⟨oc4, od4, .func (PySem.W.fnOf "one_coming" "one_coming" (defArgs s_one_coming) (defBody s_one_coming) (defScope s_one_coming) .none kV4 dc4 pm4 an4 cd4 ct4), sl4⟩) (c4 : PySem.W.codeIn K cd4 "one_coming" = true) (k4 : PySem.W.keepIn K (.ref f4) = true)
    (a5 : PySem.W.nsIn K mainGlobals "refuse_other_costs" = some (some (.ref f5))) (l5 : K.lookup f5 = some ⟨oc5, od5, .func (PySem.W.fnOf "refuse_other_costs" "refuse_other_costs" (defArgs s_refuse_other_costs) (defBody s_refuse_other_costs) (defScope s_refuse_other_costs) .none kV5 dc5 pm5 an5 cd5 ct5), sl5⟩) (c5 : PySem.W.codeIn K cd5 "refuse_other_costs" = true) (k5 : PySem.W.keepIn K (.ref f5) = true)
    (a6 : PySem.W.nsIn K mainGlobals "weighted_coming" = some (some (.ref f6))) (l6 : K.lookup f6 = some ⟨oc6, od6, .func (PySem.W.fnOf "weighted_coming" "weighted_coming" (defArgs s_weighted_coming) (defBody s_weighted_coming) (defScope s_weighted_coming) .none kV6 dc6 pm6 an6 cd6 ct6), sl6⟩) (c6 : PySem.W.codeIn K cd6 "weighted_coming" = true) (k6 : PySem.W.keepIn K (.ref f6) = true)
    (a7 : PySem.W.nsIn K mainGlobals "common_divisor" = some (some (.ref f7))) (l7 : K.lookup f7 = some ⟨oc7, od7, .func (PySem.W.fnOf "common_divisor" "common_divisor" (defArgs s_common_divisor) (defBody s_common_divisor) (defScope s_common_divisor) .none kV7 dc7 pm7 an7 cd7 ct7), sl7⟩) (c7 : PySem.W.codeIn K cd7 "common_divisor" = true) (k7 : PySem.W.keepIn K (.ref f7) = true)
    (a8 : PySem.W.nsIn K mainGlobals "fraction" = some (some (.ref f8))) (l8 : K.lookup f8 = some ⟨oc8, od8, .func (PySem.W.fnOf "fraction" "fraction" (defArgs s_fraction) (defBody s_fraction) (defScope s_fraction) .none kV8 dc8 pm8 an8 cd8 ct8), sl8⟩) (c8 : PySem.W.codeIn K cd8 "fraction" = true) (k8 : PySem.W.keepIn K (.ref f8) = true)
    (a9 : PySem.W.nsIn K mainGlobals "length_of" = some (some (.ref f9))) (l9 : K.lookup f9 = some ⟨oc9, od9, .func (PySem.W.fnOf "length_of" "length_of" (defArgs s_length_of) (defBody s_length_of) (defScope s_length_of) .none kV9 dc9 pm9 an9 cd9 ct9), sl9⟩) (c9 : PySem.W.codeIn K cd9 "length_of" = true) (k9 : PySem.W.keepIn K (.ref f9) = true)
    (a10 : PySem.W.nsIn K mainGlobals "weight_of" = some (some (.ref f10))) (l10 : K.lookup f10 = some ⟨oc10, od10, .func (PySem.W.fnOf "weight_of" "weight_of" (defArgs s_weight_of) (defBody s_weight_of) (defScope s_weight_of) .none kV10 dc10 pm10 an10 cd10 ct10), sl10⟩) (c10 : PySem.W.codeIn K cd10 "weight_of" = true) (k10 : PySem.W.keepIn K (.ref f10) = true)
    (a11 : PySem.W.nsIn K mainGlobals "ratio_of" = some (some (.ref f11))) (l11 : K.lookup f11 = some ⟨oc11, od11, .func (PySem.W.fnOf "ratio_of" "ratio_of" (defArgs s_ratio_of) (defBody s_ratio_of) (defScope s_ratio_of) .none kV11 dc11 pm11 an11 cd11 ct11), sl11⟩) (c11 : PySem.W.codeIn K cd11 "ratio_of" = true) (k11 : PySem.W.keepIn K (.ref f11) = true)
    (a12 : PySem.W.nsIn K mainGlobals "ratio_order" = some (some (.ref f12))) (l12 : K.lookup f12 = some ⟨oc12, od12, .func (PySem.W.fnOf "ratio_order" "ratio_order" (defArgs s_ratio_order) (defBody s_ratio_order) (defScope s_ratio_order) .none kV12 dc12 pm12 an12 cd12 ct12), sl12⟩) (c12 : PySem.W.codeIn K cd12 "ratio_order" = true) (k12 : PySem.W.keepIn K (.ref f12) = true)
    (a13 : PySem.W.nsIn K mainGlobals "pair_sum_of" = some (some (.ref f13))) (l13 : K.lookup f13 = some ⟨oc13, od13, .func (PySem.W.fnOf "pair_sum_of" "pair_sum_of" (defArgs s_pair_sum_of) (defBody s_pair_sum_of) (defScope s_pair_sum_of) .none kV13 dc13 pm13 an13 cd13 ct13), sl13⟩) (c13 : PySem.W.codeIn K cd13 "pair_sum_of" = true) (k13 : PySem.W.keepIn K (.ref f13) = true)
    (a14 : PySem.W.nsIn K mainGlobals "pair_sum" = some (some (.ref f14))) (l14 : K.lookup f14 = some ⟨oc14, od14, .func (PySem.W.fnOf "pair_sum" "pair_sum" (defArgs s_pair_sum) (defBody s_pair_sum) (defScope s_pair_sum) .none kV14 dc14 pm14 an14 cd14 ct14), sl14⟩) (c14 : PySem.W.codeIn K cd14 "pair_sum" = true) (k14 : PySem.W.keepIn K (.ref f14) = true)
    (a15 : PySem.W.nsIn K mainGlobals "run" = some (some (.ref f15))) (l15 : K.lookup f15 = some ⟨oc15, od15, .func (PySem.W.fnOf "run" "run" (defArgs s_run) (defBody s_run) (defScope s_run) .none kV15 dc15 pm15 an15 cd15 ct15), sl15⟩) (c15 : PySem.W.codeIn K cd15 "run" = true) (k15 : PySem.W.keepIn K (.ref f15) = true)
    (a16 : PySem.W.nsIn K mainGlobals "ends_of" = some (some (.ref f16))) (l16 : K.lookup f16 = some ⟨oc16, od16, .func (PySem.W.fnOf "ends_of" "ends_of" (defArgs s_ends_of) (defBody s_ends_of) (defScope s_ends_of) .none kV16 dc16 pm16 an16 cd16 ct16), sl16⟩) (c16 : PySem.W.codeIn K cd16 "ends_of" = true) (k16 : PySem.W.keepIn K (.ref f16) = true)
    (a17 : PySem.W.nsIn K mainGlobals "steps_at" = some (some (.ref f17))) (l17 : K.lookup f17 = some ⟨oc17, od17, .func (PySem.W.fnOf "steps_at" "steps_at" (defArgs s_steps_at) (defBody s_steps_at) (defScope s_steps_at) .none kV17 dc17 pm17 an17 cd17 ct17), sl17⟩) (c17 : PySem.W.codeIn K cd17 "steps_at" = true) (k17 : PySem.W.keepIn K (.ref f17) = true)
    (a18 : PySem.W.nsIn K mainGlobals "cost_at" = some (some (.ref f18))) (l18 : K.lookup f18 = some ⟨oc18, od18, .func (PySem.W.fnOf "cost_at" "cost_at" (defArgs s_cost_at) (defBody s_cost_at) (defScope s_cost_at) .none kV18 dc18 pm18 an18 cd18 ct18), sl18⟩) (c18 : PySem.W.codeIn K cd18 "cost_at" = true) (k18 : PySem.W.keepIn K (.ref f18) = true)
    (a19 : PySem.W.nsIn K mainGlobals "costs_of" = some (some (.ref f19))) (l19 : K.lookup f19 = some ⟨oc19, od19, .func (PySem.W.fnOf "costs_of" "costs_of" (defArgs s_costs_of) (defBody s_costs_of) (defScope s_costs_of) .none kV19 dc19 pm19 an19 cd19 ct19), sl19⟩) (c19 : PySem.W.codeIn K cd19 "costs_of" = true) (k19 : PySem.W.keepIn K (.ref f19) = true)
    (a20 : PySem.W.nsIn K mainGlobals "worth" = some (some (.ref f20))) (l20 : K.lookup f20 = some ⟨oc20, od20, .func (PySem.W.fnOf "worth" "worth" (defArgs s_worth) (defBody s_worth) (defScope s_worth) .none kV20 dc20 pm20 an20 cd20 ct20), sl20⟩) (c20 : PySem.W.codeIn K cd20 "worth" = true) (k20 : PySem.W.keepIn K (.ref f20) = true)
    (a21 : PySem.W.nsIn K mainGlobals "_law_tape" = some (some (.ref f21))) (l21 : K.lookup f21 = some ⟨oc21, od21, .func (PySem.W.fnOf "_law_tape" "_law_tape" (defArgs s_tape) (defBody s_tape) (defScope s_tape) .none kV21 dc21 pm21 an21 cd21 ct21), sl21⟩) (c21 : PySem.W.codeIn K cd21 "_law_tape" = true) (k21 : PySem.W.keepIn K (.ref f21) = true)
    (a22 : PySem.W.nsIn K mainGlobals "_law_pick" = some (some (.ref f22))) (l22 : K.lookup f22 = some ⟨oc22, od22, .func (PySem.W.fnOf "_law_pick" "_law_pick" (defArgs s_pick) (defBody s_pick) (defScope s_pick) .none kV22 dc22 pm22 an22 cd22 ct22), sl22⟩) (c22 : PySem.W.codeIn K cd22 "_law_pick" = true) (k22 : PySem.W.keepIn K (.ref f22) = true)
    (a23 : PySem.W.nsIn K mainGlobals "_law_works" = some (some (.ref f23))) (l23 : K.lookup f23 = some ⟨oc23, od23, .func (PySem.W.fnOf "_law_works" "_law_works" (defArgs s_works) (defBody s_works) (defScope s_works) .none kV23 dc23 pm23 an23 cd23 ct23), sl23⟩) (c23 : PySem.W.codeIn K cd23 "_law_works" = true) (k23 : PySem.W.keepIn K (.ref f23) = true)
    (a24 : PySem.W.nsIn K mainGlobals "_law_orders" = some (some (.ref f24))) (l24 : K.lookup f24 = some ⟨oc24, od24, .func (PySem.W.fnOf "_law_orders" "_law_orders" (defArgs s_orders) (defBody s_orders) (defScope s_orders) .none kV24 dc24 pm24 an24 cd24 ct24), sl24⟩) (c24 : PySem.W.codeIn K cd24 "_law_orders" = true) (k24 : PySem.W.keepIn K (.ref f24) = true)
    (a25 : PySem.W.nsIn K mainGlobals "_law_cost" = some (some (.ref f25))) (l25 : K.lookup f25 = some ⟨oc25, od25, .func (PySem.W.fnOf "_law_cost" "_law_cost" (defArgs s_cost) (defBody s_cost) (defScope s_cost) .none kV25 dc25 pm25 an25 cd25 ct25), sl25⟩) (c25 : PySem.W.codeIn K cd25 "_law_cost" = true) (k25 : PySem.W.keepIn K (.ref f25) = true)
    (z_list : PySem.W.nsIn K mainGlobals "list" = some none)
    (z_tuple : PySem.W.nsIn K mainGlobals "tuple" = some none)
    (z_len : PySem.W.nsIn K mainGlobals "len" = some none)
    (z_range : PySem.W.nsIn K mainGlobals "range" = some none)
    (z_repr : PySem.W.nsIn K mainGlobals "repr" = some none)
    (z_sum : PySem.W.nsIn K mainGlobals "sum" = some none)
    (z_min : PySem.W.nsIn K mainGlobals "min" = some none)
    (z_max : PySem.W.nsIn K mainGlobals "max" = some none)
    (z_abs : PySem.W.nsIn K mainGlobals "abs" = some none)
    (z_all : PySem.W.nsIn K mainGlobals "all" = some none)
    (z_any : PySem.W.nsIn K mainGlobals "any" = some none)
    (z_sorted : PySem.W.nsIn K mainGlobals "sorted" = some none)
    (z_zip : PySem.W.nsIn K mainGlobals "zip" = some none)
    (z_isinstance : PySem.W.nsIn K mainGlobals "isinstance" = some none)
    (z_int : PySem.W.nsIn K mainGlobals "int" = some none)
    (z_bool : PySem.W.nsIn K mainGlobals "bool" = some none)
    (z_str : PySem.W.nsIn K mainGlobals "str" = some none)
    (z_set : PySem.W.nsIn K mainGlobals "set" = some none)
    (z_enumerate : PySem.W.nsIn K mainGlobals "enumerate" = some none)
    (z_reversed : PySem.W.nsIn K mainGlobals "reversed" = some none)
    (z_dict : PySem.W.nsIn K mainGlobals "dict" = some none) :
    ∃ fd : FuncData, (∀ (s : Shared) (v : Value), BindsTo s fd ⟨[v], []⟩ [("_law_script", v)]) /\ ∀ base : Heap, K.In base -> base.Ns mainGlobals mg -> FnOk l.prog w K mg base CX0 5 fa fd ["_law_script"] (spF K 1 F_law) := by
  have e := hfa.symm.trans (PySem.W.mg_of X G a0)
  cases e
  have F0 := fun_mk (st := s_law) l0 c0 k0
  have D0 : DefAt K mg "law" s_law _ _ ["_law_script"] := ⟨F0, PySem.W.mg_of X G a0, F0.binds (ps := ["_law_script"]) fun _ _ _ _ _ _ us hl => match us, hl with | [_], _ => rfl⟩
  have F1 := fun_mk (st := s_less) l1 c1 k1
  have D1 : DefAt K mg "less" s_less _ _ ["one", "other"] := ⟨F1, PySem.W.mg_of X G a1, F1.binds (ps := ["one", "other"]) fun _ _ _ _ _ _ us hl => match us, hl with | [_, _], _ => rfl⟩
  have F2 := fun_mk (st := s_falling) l2 c2 k2
  have D2 : DefAt K mg "falling" s_falling _ _ ["ratios"] := ⟨F2, PySem.W.mg_of X G a2, F2.binds (ps := ["ratios"]) fun _ _ _ _ _ _ us hl => match us, hl with | [_], _ => rfl⟩
  have F3 := fun_mk (st := s_same_coming) l3 c3 k3
  have D3 : DefAt K mg "same_coming" s_same_coming _ _ ["works"] := ⟨F3, PySem.W.mg_of X G a3, F3.binds (ps := ["works"]) fun _ _ _ _ _ _ us hl => match us, hl with | [_], _ => rfl⟩
  have F4 := fun_mk (st := s_one_coming) l4 c4 k4
  have D4 : DefAt K mg "one_coming" s_one_coming _ _ ["works"] := ⟨F4, PySem.W.mg_of X G a4, F4.binds (ps := ["works"]) fun _ _ _ _ _ _ us hl => match us, hl with | [_], _ => rfl⟩
  have F5 := fun_mk (st := s_refuse_other_costs) l5 c5 k5
  have D5 : DefAt K mg "refuse_other_costs" s_refuse_other_costs _ _ ["works", "word"] := ⟨F5, PySem.W.mg_of X G a5, F5.binds (ps := ["works", "word"]) fun _ _ _ _ _ _ us hl => match us, hl with | [_, _], _ => rfl⟩
  have F6 := fun_mk (st := s_weighted_coming) l6 c6 k6
  have D6 : DefAt K mg "weighted_coming" s_weighted_coming _ _ ["works"] := ⟨F6, PySem.W.mg_of X G a6, F6.binds (ps := ["works"]) fun _ _ _ _ _ _ us hl => match us, hl with | [_], _ => rfl⟩
  have F7 := fun_mk (st := s_common_divisor) l7 c7 k7
  have D7 : DefAt K mg "common_divisor" s_common_divisor _ _ ["one", "other"] := ⟨F7, PySem.W.mg_of X G a7, F7.binds (ps := ["one", "other"]) fun _ _ _ _ _ _ us hl => match us, hl with | [_, _], _ => rfl⟩
  have F8 := fun_mk (st := s_fraction) l8 c8 k8
  have D8 : DefAt K mg "fraction" s_fraction _ _ ["top", "bottom"] := ⟨F8, PySem.W.mg_of X G a8, F8.binds (ps := ["top", "bottom"]) fun _ _ _ _ _ _ us hl => match us, hl with | [_, _], _ => rfl⟩
  have F9 := fun_mk (st := s_length_of) l9 c9 k9
  have D9 : DefAt K mg "length_of" s_length_of _ _ ["works", "some"] := ⟨F9, PySem.W.mg_of X G a9, F9.binds (ps := ["works", "some"]) fun _ _ _ _ _ _ us hl => match us, hl with | [_, _], _ => rfl⟩
  have F10 := fun_mk (st := s_weight_of) l10 c10 k10
  have D10 : DefAt K mg "weight_of" s_weight_of _ _ ["work"] := ⟨F10, PySem.W.mg_of X G a10, F10.binds (ps := ["work"]) fun _ _ _ _ _ _ us hl => match us, hl with | [_], _ => rfl⟩
  have F11 := fun_mk (st := s_ratio_of) l11 c11 k11
  have D11 : DefAt K mg "ratio_of" s_ratio_of _ _ ["works", "some"] := ⟨F11, PySem.W.mg_of X G a11, F11.binds (ps := ["works", "some"]) fun _ _ _ _ _ _ us hl => match us, hl with | [_, _], _ => rfl⟩
  have F12 := fun_mk (st := s_ratio_order) l12 c12 k12
  have D12 : DefAt K mg "ratio_order" s_ratio_order _ _ ["works"] := ⟨F12, PySem.W.mg_of X G a12, F12.binds (ps := ["works"]) fun _ _ _ _ _ _ us hl => match us, hl with | [_], _ => rfl⟩
  have F13 := fun_mk (st := s_pair_sum_of) l13 c13 k13
  have D13 : DefAt K mg "pair_sum_of" s_pair_sum_of _ _ ["coming", "lengths", "weights"] := ⟨F13, PySem.W.mg_of X G a13, F13.binds (ps := ["coming", "lengths", "weights"]) fun _ _ _ _ _ _ us hl => match us, hl with | [_, _, _], _ => rfl⟩
  have F14 := fun_mk (st := s_pair_sum) l14 c14 k14
  have D14 : DefAt K mg "pair_sum" s_pair_sum _ _ ["works"] := ⟨F14, PySem.W.mg_of X G a14, F14.binds (ps := ["works"]) fun _ _ _ _ _ _ us hl => match us, hl with | [_], _ => rfl⟩
  have F15 := fun_mk (st := s_run) l15 c15 k15
  have D15 : DefAt K mg "run" s_run _ _ ["works", "order"] := ⟨F15, PySem.W.mg_of X G a15, F15.binds (ps := ["works", "order"]) fun _ _ _ _ _ _ us hl => match us, hl with | [_, _], _ => rfl⟩
  have F16 := fun_mk (st := s_ends_of) l16 c16 k16
  have D16 : DefAt K mg "ends_of" s_ends_of _ _ ["works", "plan"] := ⟨F16, PySem.W.mg_of X G a16, F16.binds (ps := ["works", "plan"]) fun _ _ _ _ _ _ us hl => match us, hl with | [_, _], _ => rfl⟩
  have F17 := fun_mk (st := s_steps_at) l17 c17 k17
  have D17 : DefAt K mg "steps_at" s_steps_at _ _ ["rows", "t"] := ⟨F17, PySem.W.mg_of X G a17, F17.binds (ps := ["rows", "t"]) fun _ _ _ _ _ _ us hl => match us, hl with | [_, _], _ => rfl⟩
  have F18 := fun_mk (st := s_cost_at) l18 c18 k18
  have D18 : DefAt K mg "cost_at" s_cost_at _ _ ["cost", "t"] := ⟨F18, PySem.W.mg_of X G a18, F18.binds (ps := ["cost", "t"]) fun _ _ _ _ _ _ us hl => match us, hl with | [_, _], _ => rfl⟩
  have F19 := fun_mk (st := s_costs_of) l19 c19 k19
  have D19 : DefAt K mg "costs_of" s_costs_of _ _ ["works", "ends"] := ⟨F19, PySem.W.mg_of X G a19, F19.binds (ps := ["works", "ends"]) fun _ _ _ _ _ _ us hl => match us, hl with | [_, _], _ => rfl⟩
  have F20 := fun_mk (st := s_worth) l20 c20 k20
  have D20 : DefAt K mg "worth" s_worth _ _ ["works", "ends", "question"] := ⟨F20, PySem.W.mg_of X G a20, F20.binds (ps := ["works", "ends", "question"]) fun _ _ _ _ _ _ us hl => match us, hl with | [_, _, _], _ => rfl⟩
  have F21 := fun_mk (st := s_tape) l21 c21 k21
  have D21 : DefAt K mg "_law_tape" s_tape _ _ ["_law_script"] := ⟨F21, PySem.W.mg_of X G a21, F21.binds (ps := ["_law_script"]) fun _ _ _ _ _ _ us hl => match us, hl with | [_], _ => rfl⟩
  have F22 := fun_mk (st := s_pick) l22 c22 k22
  have D22 : DefAt K mg "_law_pick" s_pick _ _ ["_law_tape_here", "_law_many"] := ⟨F22, PySem.W.mg_of X G a22, F22.binds (ps := ["_law_tape_here", "_law_many"]) fun _ _ _ _ _ _ us hl => match us, hl with | [_, _], _ => rfl⟩
  have F23 := fun_mk (st := s_works) l23 c23 k23
  have D23 : DefAt K mg "_law_works" s_works _ _ ["_law_tape_here", "_law_many"] := ⟨F23, PySem.W.mg_of X G a23, F23.binds (ps := ["_law_tape_here", "_law_many"]) fun _ _ _ _ _ _ us hl => match us, hl with | [_, _], _ => rfl⟩
  have F24 := fun_mk (st := s_orders) l24 c24 k24
  have D24 : DefAt K mg "_law_orders" s_orders _ _ ["_law_tape_here", "_law_many"] := ⟨F24, PySem.W.mg_of X G a24, F24.binds (ps := ["_law_tape_here", "_law_many"]) fun _ _ _ _ _ _ us hl => match us, hl with | [_, _], _ => rfl⟩
  have F25 := fun_mk (st := s_cost) l25 c25 k25
  have D25 : DefAt K mg "_law_cost" s_cost _ _ ["_law_works_here", "_law_order"] := ⟨F25, PySem.W.mg_of X G a25, F25.binds (ps := ["_law_works_here", "_law_order"]) fun _ _ _ _ _ _ us hl => match us, hl with | [_, _], _ => rfl⟩
  have B : BltA mg := ⟨PySem.W.mg_none_of X G z_list, PySem.W.mg_none_of X G z_tuple, PySem.W.mg_none_of X G z_len, PySem.W.mg_none_of X G z_range, PySem.W.mg_none_of X G z_repr, PySem.W.mg_none_of X G z_sum, PySem.W.mg_none_of X G z_min, PySem.W.mg_none_of X G z_max, PySem.W.mg_none_of X G z_abs, PySem.W.mg_none_of X G z_all, PySem.W.mg_none_of X G z_any, PySem.W.mg_none_of X G z_sorted, PySem.W.mg_none_of X G z_zip, PySem.W.mg_none_of X G z_isinstance, PySem.W.mg_none_of X G z_int, PySem.W.mg_none_of X G z_bool, PySem.W.mg_none_of X G z_str, PySem.W.mg_none_of X G z_set, PySem.W.mg_none_of X G z_enumerate, PySem.W.mg_none_of X G z_reversed, PySem.W.mg_none_of X G z_dict⟩
  refine ⟨PySem.W.fnOf "law" "law" (defArgs s_law) (defBody s_law) (defScope s_law) .none kV0 dc0 pm0 an0 cd0 ct0, fun s v => .of_eq rfl, fun base _ _ => ?_⟩
  have G_less := T61.ok_less (P := l.prog) (w := w) (base := base) D1  B
  have G_falling := T61.ok_falling (P := l.prog) (w := w) (base := base) D2 D1 G_less B
  have G_same_coming := T61.ok_same_coming (P := l.prog) (w := w) (base := base) D3  B
  have G_one_coming := T61.ok_one_coming (P := l.prog) (w := w) (base := base) D4 D3 G_same_coming B
  have G_refuse_other_costs := T61.ok_refuse_other_costs (P := l.prog) (w := w) (base := base) D5  B
  have G_weighted_coming := T61.ok_weighted_coming (P := l.prog) (w := w) (base := base) D6 D4 G_one_coming D5 G_refuse_other_costs B
  have G_common_divisor := T61.ok_common_divisor (P := l.prog) (w := w) (base := base) D7  B
  have G_fraction := T61.ok_fraction (P := l.prog) (w := w) (base := base) D8 D7 G_common_divisor B
  have G_length_of := T61.ok_length_of (P := l.prog) (w := w) (base := base) D9  B
  have G_weight_of := T61.ok_weight_of (P := l.prog) (w := w) (base := base) D10  B
  have G_ratio_of := T61.ok_ratio_of (P := l.prog) (w := w) (base := base) D11 D8 G_fraction D9 G_length_of D10 G_weight_of B
  have G_ratio_order := T61.ok_ratio_order (P := l.prog) (w := w) (base := base) D12 D2 G_falling D6 G_weighted_coming D11 G_ratio_of B
  have G_pair_sum_of := T61.ok_pair_sum_of (P := l.prog) (w := w) (base := base) D13  B
  have G_pair_sum := T61.ok_pair_sum (P := l.prog) (w := w) (base := base) D14 D10 G_weight_of D6 G_weighted_coming D13 G_pair_sum_of B
  have G_run := T61.ok_run (P := l.prog) (w := w) (base := base) D15  B
  have G_ends_of := T61.ok_ends_of (P := l.prog) (w := w) (base := base) D16  B
  have G_steps_at := T61.ok_steps_at (P := l.prog) (w := w) (base := base) D17  B
  have G_cost_at := T61.ok_cost_at (P := l.prog) (w := w) (base := base) D18 D17 G_steps_at B
  have G_costs_of := T61.ok_costs_of (P := l.prog) (w := w) (base := base) D19 D18 G_cost_at B
  have G_worth := T61.ok_worth (P := l.prog) (w := w) (base := base) D20 D19 G_costs_of B
  have G_tape := T61.ok_tape (P := l.prog) (w := w) (base := base) D21  B
  have G_pick := T61.ok_pick (P := l.prog) (w := w) (base := base) D22  B
  have G_works := T61.ok_works (P := l.prog) (w := w) (base := base) D23 D22 G_pick B
  have G_orders := T61.ok_orders (P := l.prog) (w := w) (base := base) D24 D22 G_pick B
  have G_cost := T61.ok_cost (P := l.prog) (w := w) (base := base) D25  B
  have G_law := T61.ok_law (P := l.prog) (w := w) (base := base) D0 D12 G_ratio_order D14 G_pair_sum D15 G_run D16 G_ends_of D20 G_worth D21 G_tape D22 G_pick D23 G_works D24 G_orders D25 G_cost B
  exact G_law
end T61
open PySem PySem.W PyProof.Rows
set_option maxRecDepth 100000 in
set_option maxHeartbeats 0 in
theorem PySem.Challenge.cw_benchdays_k61_whole_ratio_is_best_holds : PySem.Challenge.rw_benchdays_k61_whole_ratio_is_best.Holds := by
  w_on; o_law; k_head; (case hw => w_witness2)
  k_fill
  refine L2.walkD (l := PySem.Challenge.rw_benchdays_k61_whole_ratio_is_best) (n := 63) (k := 5) (F := T61.F_law) rfl (by decide) rfl ⟨rfl, by decide, by decide, rfl⟩ T61.law_eq (fun w h Y => PySem.W.kIn_of Y) ?F
  case F =>
    intro w mg fa h KX G hmg
    refine' T61.all_mk KX G hmg ?a0 ?l0 ?c0 ?k0 ?a1 ?l1 ?c1 ?k1 ?a2 ?l2 ?c2 ?k2 ?a3 ?l3 ?c3 ?k3 ?a4 ?l4 ?c4 ?k4 ?a5 ?l5 ?c5 ?k5 ?a6 ?l6 ?c6 ?k6 ?a7 ?l7 ?c7 ?k7 ?a8 ?l8 ?c8 ?k8 ?a9 ?l9 ?c9 ?k9 ?a10 ?l10 ?c10 ?k10 ?a11 ?l11 ?c11 ?k11 ?a12 ?l12 ?c12 ?k12 ?a13 ?l13 ?c13 ?k13 ?a14 ?l14 ?c14 ?k14 ?a15 ?l15 ?c15 ?k15 ?a16 ?l16 ?c16 ?k16 ?a17 ?l17 ?c17 ?k17 ?a18 ?l18 ?c18 ?k18 ?a19 ?l19 ?c19 ?k19 ?a20 ?l20 ?c20 ?k20 ?a21 ?l21 ?c21 ?k21 ?a22 ?l22 ?c22 ?k22 ?a23 ?l23 ?c23 ?k23 ?a24 ?l24 ?c24 ?k24 ?a25 ?l25 ?c25 ?k25 ?z_list ?z_tuple ?z_len ?z_range ?z_repr ?z_sum ?z_min ?z_max ?z_abs ?z_all ?z_any ?z_sorted ?z_zip ?z_isinstance ?z_int ?z_bool ?z_str ?z_set ?z_enumerate ?z_reversed ?z_dict
    (case a0 => k_is)
    (case l0 => k_is)
    (case c0 => k_is)
    (case k0 => k_is)
    (case a1 => k_is)
    (case l1 => k_is)
    (case c1 => k_is)
    (case k1 => k_is)
    (case a2 => k_is)
    (case l2 => k_is)
    (case c2 => k_is)
    (case k2 => k_is)
    (case a3 => k_is)
    (case l3 => k_is)
    (case c3 => k_is)
    (case k3 => k_is)
    (case a4 => k_is)
    (case l4 => k_is)
    (case c4 => k_is)
    (case k4 => k_is)
    (case a5 => k_is)
    (case l5 => k_is)
    (case c5 => k_is)
    (case k5 => k_is)
    (case a6 => k_is)
    (case l6 => k_is)
    (case c6 => k_is)
    (case k6 => k_is)
    (case a7 => k_is)
    (case l7 => k_is)
    (case c7 => k_is)
    (case k7 => k_is)
    (case a8 => k_is)
    (case l8 => k_is)
    (case c8 => k_is)
    (case k8 => k_is)
    (case a9 => k_is)
    (case l9 => k_is)
    (case c9 => k_is)
    (case k9 => k_is)
    (case a10 => k_is)
    (case l10 => k_is)
    (case c10 => k_is)
    (case k10 => k_is)
    (case a11 => k_is)
    (case l11 => k_is)
    (case c11 => k_is)
    (case k11 => k_is)
    (case a12 => k_is)
    (case l12 => k_is)
    (case c12 => k_is)
    (case k12 => k_is)
    (case a13 => k_is)
    (case l13 => k_is)
    (case c13 => k_is)
    (case k13 => k_is)
    (case a14 => k_is)
    (case l14 => k_is)
    (case c14 => k_is)
    (case k14 => k_is)
    (case a15 => k_is)
    (case l15 => k_is)
    (case c15 => k_is)
    (case k15 => k_is)
    (case a16 => k_is)
    (case l16 => k_is)
    (case c16 => k_is)
    (case k16 => k_is)
    (case a17 => k_is)
    (case l17 => k_is)
    (case c17 => k_is)
    (case k17 => k_is)
    (case a18 => k_is)
    (case l18 => k_is)
    (case c18 => k_is)
    (case k18 => k_is)
    (case a19 => k_is)
    (case l19 => k_is)
    (case c19 => k_is)
    (case k19 => k_is)
    (case a20 => k_is)
    (case l20 => k_is)
    (case c20 => k_is)
    (case k20 => k_is)
    (case a21 => k_is)
    (case l21 => k_is)
    (case c21 => k_is)
    (case k21 => k_is)
    (case a22 => k_is)
    (case l22 => k_is)
    (case c22 => k_is)
    (case k22 => k_is)
    (case a23 => k_is)
    (case l23 => k_is)
    (case c23 => k_is)
    (case k23 => k_is)
    (case a24 => k_is)
    (case l24 => k_is)
    (case c24 => k_is)
    (case k24 => k_is)
    (case a25 => k_is)
    (case l25 => k_is)
    (case c25 => k_is)
    (case k25 => k_is)
    (case z_list => k_is)
    (case z_tuple => k_is)
    (case z_len => k_is)
    (case z_range => k_is)
    (case z_repr => k_is)
    (case z_sum => k_is)
    (case z_min => k_is)
    (case z_max => k_is)
    (case z_abs => k_is)
    (case z_all => k_is)
    (case z_any => k_is)
    (case z_sorted => k_is)
    (case z_zip => k_is)
    (case z_isinstance => k_is)
    (case z_int => k_is)
    (case z_bool => k_is)
    (case z_str => k_is)
    (case z_set => k_is)
    (case z_enumerate => k_is)
    (case z_reversed => k_is)
    (case z_dict => k_is)
