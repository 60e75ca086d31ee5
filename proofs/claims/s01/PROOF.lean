import PyProof.Rows.All
import Wide.All
import OpenK.AllK
import Wide.FinOn
import PyProof.EqAt
import PyProof.EqKinds
import PyProof.TupleCall
import KE.BitLaws
import Open.SpecLaws
import KE.OsHead
import KE.OsGo
import PySem.Challenge.RW_plansoflooks_s01_answers
set_option Elab.async false
set_option linter.all false
set_option maxRecDepth 100000
/-! THE HAND LAYER, for ints, bools, texts, own classes, lists, tuples, dicts, comprehensions, walks over dicts, enumerate, zip, reversed, texts, calls, loops. Paste it whole ahead of your own text; what your proof does not reach may be deleted. -/
namespace L2
open PySem PySem.Spec PyProof.Rows

/-- a key: an int or a str -/
noncomputable abbrev Key := Sum Int Str
noncomputable def keyIs : Key → Value → Bool
  | .inl k, v => Value.isInt k v
  | .inr x, v => Value.isStrOf x v
noncomputable def keyH (w : World) : Key → Int
  | .inl k => hashInt k
  | .inr x => hashStr w x
theorem keyIs_shape : ∀ {k : Key} {v : Value}, keyIs k v = true → (∃ i t, k = Sum.inl i ∧ v = Value.int i t) ∨ (∃ x t, k = Sum.inr x ∧ v = Value.str x t)
  | .inl i, v, h => by
    obtain ⟨t, e⟩ := Value.isInt_shape (k := i) (v := v) h
    exact .inl ⟨i, t, rfl, e⟩
  | .inr x, v, h => by
    obtain ⟨t, e⟩ := Value.isStrOf_shape (x := x) (v := v) h
    exact .inr ⟨x, t, rfl, e⟩
theorem key_ll (a b : Int) : decide ((Sum.inl a : Key) = Sum.inl b) = (a == b) := by
  by_cases e : a = b
  · subst e; simp
  · have h : ¬ (Sum.inl a : Key) = Sum.inl b := fun q => e (Sum.inl.inj q)
    rw [decide_eq_false h]
    exact (beq_eq_false_iff_ne.mpr e).symm
theorem key_rr (a b : Str) : decide ((Sum.inr a : Key) = Sum.inr b) = decide (a = b) := by
  by_cases e : a = b
  · subst e; simp
  · have h : ¬ (Sum.inr a : Key) = Sum.inr b := fun q => e (Sum.inr.inj q)
    rw [decide_eq_false h, decide_eq_false e]
theorem key_lr (a : Int) (b : Str) : decide ((Sum.inl a : Key) = Sum.inr b) = false := decide_eq_false (fun q => nomatch q)
theorem key_rl (a : Str) (b : Int) : decide ((Sum.inr a : Key) = Sum.inl b) = false := decide_eq_false (fun q => nomatch q)

noncomputable def mixKind (prog : Program) (w : World) : PySem.KeyKind prog w Key where
  is := keyIs
  hash := keyH w
  inj := fun v a b ha hb => by
    rcases keyIs_shape ha with ⟨i, t, rfl, rfl⟩ | ⟨x, t, rfl, rfl⟩
    · rcases keyIs_shape hb with ⟨j, u, rfl, e⟩ | ⟨y, u, rfl, e⟩
      · injection e with e1 _; rw [e1]
      · exact nomatch e
    · rcases keyIs_shape hb with ⟨j, u, rfl, e⟩ | ⟨y, u, rfl, e⟩
      · exact nomatch e
      · injection e with e1 _; rw [e1]
  byValue := fun k v h => by
    rcases keyIs_shape h with ⟨i, t, rfl, rfl⟩ | ⟨x, t, rfl, rfl⟩ <;> rfl
  pyHash := fun hv h => by
    rcases keyIs_shape hv with ⟨i, t, rfl, rfl⟩ | ⟨x, t, rfl, rfl⟩
    · exact wpAny_pyHash_int h
    · exact wpAny_pyHash_str h
  eqBool := fun hu hv h => by
    rcases keyIs_shape hu with ⟨i, t, rfl, rfl⟩ | ⟨x, t, rfl, rfl⟩
    · rcases keyIs_shape hv with ⟨j, u, rfl, rfl⟩ | ⟨y, u, rfl, rfl⟩
      · rw [key_ll] at h; exact wpAny_eqBool_int h
      · rw [key_lr] at h; exact SeqAt.EqAt.int_str i t y u _ _ _ _ h
    · rcases keyIs_shape hv with ⟨j, u, rfl, rfl⟩ | ⟨y, u, rfl, rfl⟩
      · rw [key_rl] at h; exact SeqAt.EqAt.str_int x t j u _ _ _ _ h
      · rw [key_rr] at h; exact wpAny_eqBool_str h
  «strs» := fun k x t v h => by
    rcases keyIs_shape h with ⟨i, u, rfl, e⟩ | ⟨y, u, rfl, e⟩
    · exact nomatch e
    · injection e with e1 _
      subst e1
      cases v <;> rfl

end L2

namespace L2
open PySem PySem.Spec PyProof.Rows

/-- a value, without the heap -/
inductive V where
  | non | bl (b : Bool) | int (i : Int) | str (x : Str) | byt (b : Array UInt8) | flt (b : UInt64) | ref (a : Addr) | ty (n : String)
  deriving DecidableEq

noncomputable def RelV : V → Value → Prop
  | .non, u => u = Value.none
  | .bl b, u => u = Value.bool b
  | .int i, u => ∃ t, u = Value.int i t
  | .str x, u => ∃ t, u = Value.str x t
  | .byt b, u => ∃ t, u = Value.bytes b t
  | .flt b, u => ∃ t, u = Value.float b t
  | .ref a, u => u = Value.ref a
  | .ty n, u => u = Value.type n

noncomputable abbrev Vals : List V → List Value → Prop := Paired RelV
theorem Vals.length {xs : List V} {us : List Value} (r : Vals xs us) : xs.length = us.length := Paired.length r
theorem Vals.get : ∀ {xs : List V} {us : List Value} {i : Nat} {x : V}, Vals xs us → xs[i]? = some x → ∃ u, us[i]? = some u ∧ RelV x u
  | _, _, _, _, .nil, e => by simp at e
  | _, _, 0, _, .cons r _, e => by simp at e; subst e; exact ⟨_, rfl, r⟩
  | _, _, i + 1, x, .cons _ t, e => by
    obtain ⟨u, h1, h2⟩ := Vals.get (i := i) (x := x) t (by simpa using e)
    exact ⟨u, by simpa using h1, h2⟩
theorem Vals.set {x : V} {u : Value} (r : RelV x u) : ∀ {xs : List V} {us : List Value} (i : Nat), Vals xs us → Vals (xs.set i x) (us.set i u)
  | _, _, _, .nil => .nil
  | _, _, 0, .cons _ t => .cons r t
  | _, _, i + 1, .cons q t => .cons q (Vals.set r i t)
theorem Vals.append : ∀ {xs ys : List V} {us ws : List Value}, Vals xs us → Vals ys ws → Vals (xs ++ ys) (us ++ ws)
  | _, _, _, _, .nil, s => s
  | _, _, _, _, .cons r t, s => .cons r (Vals.append t s)
theorem Vals.take : ∀ {xs : List V} {us : List Value} (n : Nat), Vals xs us → Vals (xs.take n) (us.take n)
  | _, _, 0, _ => .nil
  | _, _, _ + 1, .nil => .nil
  | _, _, n + 1, .cons r t => .cons r (Vals.take n t)
theorem Vals.drop : ∀ {xs : List V} {us : List Value} (n : Nat), Vals xs us → Vals (xs.drop n) (us.drop n)
  | _, _, 0, r => r
  | _, _, _ + 1, .nil => .nil
  | _, _, n + 1, .cons _ t => Vals.drop n t

noncomputable def RelO : Option V → Option Value → Prop
  | some v, some u => RelV v u
  | none, none => True
  | _, _ => False
noncomputable def KV {κ : Type} : List (κ × V) → List (κ × Value) → Prop := Paired fun (p : κ × V) (q : κ × Value) => p.1 = q.1 ∧ RelV p.2 q.2

/-- a key of a dict (00_mix): an int or a text -/
noncomputable def kV : Key → V
  | .inl i => .int i
  | .inr x => .str x

/-- what stands at a tracked address -/
inductive HO where
  /-- a list -/
  | lst (xs : List V)
  /-- a tuple (never changes) -/
  | tup (xs : List V)
  /-- a dict whose keys are ints and texts; one whose keys are tuples of ints and texts (the empty one is both) -/
  | dK (kvs : List (Key × V)) | dT (kvs : List (List Key × V))
  /-- a set of ints: its members, its size -/
  | set (S : Int → Bool) (n : Nat)
  /-- an instance of the class at C, its dict at dx, its attributes -/
  | ins (C dx : Addr) (fs : List (Str × V))
  /-- the dict of the instance at x -/
  | own (x : Addr)
  /-- the dict of an exception -/
  | xd (fs : List (Str × V))
  /-- a bound method, f of x -/
  | met (f x : Addr)
  /-- a range object lo, lo + 1, .. below hi -/
  | rng (lo hi : Int)
  /-- a thing that is known to the object (the script; a dict while a loop walks it): read, never written while it is so -/
  | frz (o : Obj) (u : HO)
  /-- a code object's table -/
  | tbl (ps : Array Value)
  /-- any other thing, by what is true of its one object (a def of one's own: SetO a S n := HO.ext fun h => ..) -/
  | ext (φ : Heap → Prop)

noncomputable abbrev Hp := Addr → Option HO
noncomputable def upd (H : Hp) (a : Addr) (o : HO) : Hp := fun b => if b = a then some o else H b
theorem upd_same {H : Hp} {a : Addr} {o : HO} : upd H a o a = some o := by unfold upd; rw [if_pos rfl]
theorem upd_ne {H : Hp} {a b : Addr} {o : HO} (h : b ≠ a) : upd H a o b = H b := by unfold upd; rw [if_neg h]
/-- two objects of different content stand apart -/
theorem ne_of {H : Hp} {a b : Addr} {o u : HO} (h : H a = some o) (h' : H b = some u) (d : o ≠ u) : a ≠ b := by
  intro e; subst e; rw [h] at h'; exact d (Option.some.inj h')
theorem ne_of_none {H : Hp} {a b : Addr} {o : HO} (h : H a = some o) (h' : H b = none) : a ≠ b := by
  intro e; subst e; rw [h] at h'; cases h'

section
variable (P : Program) (w : World)
noncomputable def ObjOk (H : Hp) (h : Heap) (a : Addr) : HO → Prop
  | .lst xs => xs.length ≤ sizeLine ∧ ∃ (its : List Value) (n : Nat), Vals xs its ∧ h.get? a = some { cls := .type "list", data := .seq its.toArray n }
  | .tup xs => xs.length ≤ sizeLine ∧ ∃ its : List Value, Vals xs its ∧ IsTup h a its.toArray
  | .dK kvs => kvs.length ≤ sizeLine ∧ (a == sysModules) = false ∧ ∃ vs, KV kvs vs ∧ h.DictOf (mixKind P w) a vs
  | .dT kvs => kvs.length ≤ sizeLine ∧ (a == sysModules) = false ∧ ∃ xs : List (List Key × Addr × Value),
      Paired (fun (p : List Key × V) (q : List Key × Addr × Value) => p.1 = q.1 ∧ H q.2.1 = some (.tup (p.1.map kV)) ∧ RelV p.2 q.2.2) kvs xs ∧
      ∃ o es ep, h.get? a = some o ∧ o.ExactDict ∧ o.data = .dict es ep ∧ es.toList = xs.map (entryOfKey (tupleKind (mixKind P w))) ∧ (xs.map (·.1)).Nodup
  | .set S n => h.SetOf (intKind P w) a S n
  | .ins C dx fs => H dx = some (.own a) ∧ fs.length ≤ 1000 ∧ dx ≠ a ∧ h.get? a = some (PySem.W.instObj C dx) ∧
      ∃ mA, h.Ns1 dx mA ∧ (∀ f, RelO (fs.lookup f) (mA f)) ∧ PySem.Within mA (fs.map (·.1))
  | .own _ => ∃ o, h.get? a = some o
  | .xd fs => ∃ mA, h.Ns1 a mA ∧ ∀ f, RelO (fs.lookup f) (mA f)
  | .rng lo hi => ∃ t u v, h.get? a = some { cls := .type "range", data := .fields #[.int lo t, .int hi u, .int 1 v] }
  | .frz o u => h.get? a = some o ∧ ObjOk H h a u
  | .tbl ps => h.get? a = some { cls := .none, data := .fields ps }
  | .met f x => h.get? a = some (PySem.W.methodObj (.ref f) (.ref x))
  | .ext φ => φ h ∧ (∃ o, h.get? a = some o) ∧ ∀ h1 h2 : Heap, φ h1 → (∀ o, h1.get? a = some o → h2.get? a = some o) → φ h2
/-- the abstract heap is held -/
noncomputable def HOk (H : Hp) (h : Heap) : Prop := ∀ a o, H a = some o → ObjOk P w H h a o
end

section
variable {P : Program} {w : World} {H H' : Hp} {h h' : Heap} {a : Addr} {o : HO}
theorem ObjOk.lt (x : ObjOk P w H h a o) : a < h.objs.size := by
  cases o with
  | lst xs => obtain ⟨_, _, _, _, e⟩ := x; exact Heap.lt_size e
  | tup xs => obtain ⟨_, _, _, p⟩ := x; exact p.lt
  | dK kvs => obtain ⟨_, _, _, _, o, _, _, e, _⟩ := x; exact Heap.lt_size e
  | dT kvs => obtain ⟨_, _, _, _, o, _, _, e, _⟩ := x; exact Heap.lt_size e
  | set S n => obtain ⟨o, _, _, _, e, _⟩ := x; exact Heap.lt_size e
  | ins C dx fs => obtain ⟨_, _, _, e, _⟩ := x; exact Heap.lt_size e
  | own y => obtain ⟨_, e⟩ := x; exact Heap.lt_size e
  | xd fs => obtain ⟨_, ⟨_, _, _, e, _⟩, _⟩ := x; exact Heap.lt_size e
  | rng lo hi => obtain ⟨_, _, _, e⟩ := x; exact Heap.lt_size e
  | frz ob u => obtain ⟨e, _⟩ := x; exact Heap.lt_size e
  | tbl ps => exact Heap.lt_size (show h.get? a = some _ from x)
  | met f y => exact Heap.lt_size (show h.get? a = some _ from x)
  | ext φ => obtain ⟨_, ⟨_, e⟩, _⟩ := x; exact Heap.lt_size e
theorem Paired.mapP {α β : Type} {F G : α → β → Prop} : ∀ {l₁ : List α} {l₂ : List β}, Paired F l₁ l₂ → (∀ a b, F a b → G a b) → Paired G l₁ l₂
  | _, _, .nil, _ => .nil
  | _, _, .cons r t, f => .cons (f _ _ r) (Paired.mapP t f)
/-- what an object's description leans on: its own object, its own dict, the tuples -/
theorem ObjOk.stay (x : ObjOk P w H h a o) (k : ∀ b u, (b = a ∨ H b = some (.own a)) → h.get? b = some u → h'.get? b = some u)
    (ho : ∀ b, H b = some (.own a) → H' b = some (.own a)) (ht : ∀ b xs, H b = some (.tup xs) → H' b = some (.tup xs)) : ObjOk P w H' h' a o := by
  induction o with
  | lst xs => obtain ⟨z, its, n, r, e⟩ := x; exact ⟨z, its, n, r, k _ _ (.inl rfl) e⟩
  | tup xs => obtain ⟨z, its, r, ob, e, c⟩ := x; exact ⟨z, its, r, ob, k _ _ (.inl rfl) e, c⟩
  | dK kvs => obtain ⟨z, y, vs, r, ob, es, ep, e, c⟩ := x; exact ⟨z, y, vs, r, ob, es, ep, k _ _ (.inl rfl) e, c⟩
  | dT kvs =>
    obtain ⟨z, y, xs, r, ob, es, ep, e, c⟩ := x
    exact ⟨z, y, xs, Paired.mapP r fun p q z => ⟨z.1, ht _ _ z.2.1, z.2.2⟩, ob, es, ep, k _ _ (.inl rfl) e, c⟩
  | set S n => obtain ⟨ob, es, ep, t, e, c⟩ := x; exact ⟨ob, es, ep, t, k _ _ (.inl rfl) e, c⟩
  | ins C dx fs =>
    obtain ⟨d, z, ne, e, mA, ⟨od, es, ep, e2, c⟩, r⟩ := x
    exact ⟨ho _ d, z, ne, k _ _ (.inl rfl) e, mA, ⟨od, es, ep, k _ _ (.inr d) e2, c⟩, r⟩
  | own y => obtain ⟨ob, e⟩ := x; exact ⟨ob, k _ _ (.inl rfl) e⟩
  | xd fs => obtain ⟨mA, ⟨od, es, ep, e, c⟩, r⟩ := x; exact ⟨mA, ⟨od, es, ep, k _ _ (.inl rfl) e, c⟩, r⟩
  | rng lo hi => obtain ⟨t, u, v, e⟩ := x; exact ⟨t, u, v, k _ _ (.inl rfl) e⟩
  | frz ob u ih => obtain ⟨e, q⟩ := x; exact ⟨k _ _ (.inl rfl) e, ih q⟩
  | tbl ps =>
    have e : h.get? a = some { cls := .none, data := .fields ps } := x
    show h'.get? a = some { cls := .none, data := .fields ps }
    exact k a _ (.inl rfl) e
  | met f y =>
    have e : h.get? a = some (PySem.W.methodObj (.ref f) (.ref y)) := x
    show h'.get? a = some (PySem.W.methodObj (.ref f) (.ref y))
    exact k a _ (.inl rfl) e
  | ext φ => obtain ⟨p, ⟨o, e⟩, st⟩ := x; exact ⟨st _ _ p fun o q => k _ _ (.inl rfl) q, ⟨o, k _ _ (.inl rfl) e⟩, st⟩
theorem HOk.lt (x : HOk P w H h) (e : H a = some o) : a < h.objs.size := (x a o e).lt
theorem HOk.fresh (x : HOk P w H h) (e : h.objs.size ≤ a) : H a = none := by
  cases q : H a with
  | none => rfl
  | some u => exact absurd (Nat.lt_of_lt_of_le (x.lt q) e) (Nat.lt_irrefl _)
/-- every object of the heap is kept -/
theorem HOk.kept (x : HOk P w H h) (k : ∀ b u, h.get? b = some u → h'.get? b = some u) : HOk P w H h' := fun a o e =>
  (x a o e).stay (fun b u _ q => k b u q) (fun _ q => q) fun _ _ q => q
/-- a new object is laid and tracked -/
theorem HOk.laid (x : HOk P w H h) (k : ∀ b u, h.get? b = some u → h'.get? b = some u) (hp : h.objs.size ≤ a) (new : ObjOk P w (upd H a o) h' a o) : HOk P w (upd H a o) h' := fun b u e => by
  have hn := x.fresh hp
  by_cases hb : b = a
  · subst hb; rw [upd_same] at e; cases e; exact new
  · rw [upd_ne hb] at e
    exact (x b u e).stay (fun c v _ q => k c v q) (fun c q => by rw [upd_ne (ne_of_none q hn)]; exact q) fun c xs q => by rw [upd_ne (ne_of_none q hn)]; exact q
end

/-- what may be read as u: it is u, or a known u -/
noncomputable def Rd (H : Hp) (a : Addr) (u : HO) : Prop := H a = some u ∨ ∃ o, H a = some (.frz o u)
theorem Rd.ok {P : Program} {w : World} {H : Hp} {h : Heap} {a : Addr} {u : HO} (r : Rd H a u) (x : HOk P w H h) : ObjOk P w H h a u := by
  rcases r with r | ⟨o, r⟩
  · exact x a u r
  · obtain ⟨_, q⟩ := x a _ r
    exact q
/-- what may be written -/
noncomputable def Mut : Option HO → Prop
  | some (.lst _) => True
  | some (.dK _) => True
  | some (.dT _) => True
  | some (.set _ _) => True
  | some (.ins _ _ _) => True
  | some (.ext _) => True
  | _ => False
section
variable {P : Program} {w : World} {H : Hp} {h h' : Heap} {x e : Addr} {o' : HO}
/-- the object at e is changed: x itself, or the dict of the instance x -/
theorem HOk.write (ok : HOk P w H h) (mu : Mut (H x)) (he : e = x ∨ H e = some (.own x)) (k : ∀ b u, b ≠ e → h.get? b = some u → h'.get? b = some u) (heo : ∃ u, h'.get? e = some u)
    (new : ObjOk P w (upd H x o') h' x o') : HOk P w (upd H x o') h' := fun b u q => by
  have nown : ∀ c y, H c = some (.own y) → c ≠ x := fun c y r z => by subst z; rw [r] at mu; exact mu
  have ntup : ∀ c xs, H c = some (.tup xs) → c ≠ x := fun c xs r z => by subst z; rw [r] at mu; exact mu
  by_cases hb : b = x
  · subst hb; rw [upd_same] at q; cases q; exact new
  · rw [upd_ne hb] at q
    by_cases hbe : b = e
    · have q' : H b = some (.own x) := by
        rcases he with z | z
        · exact absurd (hbe.trans z) hb
        · rw [hbe]; exact z
      rw [q] at q'; cases q'
      obtain ⟨v, hv⟩ := heo
      exact ⟨v, by rw [hbe]; exact hv⟩
    · refine (ok b u q).stay (fun c v hc r => k c v ?_ r) (fun c r => by rw [upd_ne (nown c b r)]; exact r) fun c xs r => by rw [upd_ne (ntup c xs r)]; exact r
      rcases hc with rfl | hc
      · exact hbe
      · rintro rfl
        rcases he with z | z
        · exact nown c b hc z
        · rw [hc] at z; cases z; exact hb rfl
end

/-! ### kept unless tracked; of the frames at fs (the callers') the slots may change (an exception that passes writes there); of the records at ex (iterators) nothing is said -/
structure Un (fs ex : List Addr) (H H' : Hp) (h h' : Heap) : Prop where
  keep : ∀ b o, h.get? b = some o → H b = none → b ∉ fs → b ∉ ex → h'.get? b = some o
  slot : ∀ b o, h.get? b = some o → H b = none → b ∈ fs → b ∉ ex → ∃ sl, h'.get? b = some { o with slots := sl }
  free : ∀ b o, h.get? b = some o → H b = none → b ∉ ex → H' b = none
  there : ∀ b o, h.get? b = some o → b ∉ ex → ∃ o', h'.get? b = some o'
  tups : ∀ b xs, H b = some (.tup xs) → H' b = some (.tup xs)
  frzs : ∀ b o u, H b = some (.frz o u) → H' b = some (.frz o u)
  tbls : ∀ b ps, H b = some (.tbl ps) → ∃ more, H' b = some (.tbl (ps ++ more))
section
variable {fs fs' ex ex' : List Addr} {H H1 H2 : Hp} {h h1 h2 h' : Heap} {a x e : Addr} {o : HO}
theorem Un.any (u : Un fs ex H H1 h h1) {b : Addr} {ob : Obj} (q : h.get? b = some ob) (n : H b = none) (hx : b ∉ ex) : ∃ sl, h1.get? b = some { ob with slots := sl } := by
  by_cases hb : b ∈ fs
  · exact u.slot b ob q n hb hx
  · exact ⟨ob.slots, u.keep b ob q n hb hx⟩
theorem Un.kept (k : ∀ b u, h.get? b = some u → h'.get? b = some u) : Un fs ex H H h h' :=
  ⟨fun b ob q _ _ _ => k b ob q, fun b ob q _ _ _ => ⟨ob.slots, k b ob q⟩, fun _ _ _ n _ => n, fun b ob q _ => ⟨ob, k b ob q⟩, fun _ _ q => q, fun _ _ _ q => q, fun _ ps q => ⟨#[], by rw [q]; simp⟩⟩
theorem Un.refl : Un fs ex H H h h := Un.kept fun _ _ q => q
theorem Un.laid (k : ∀ b u, h.get? b = some u → h'.get? b = some u) (hp : h.objs.size ≤ a) (hn : H a = none) : Un fs ex H (upd H a o) h h' where
  keep := fun b u q _ _ _ => k b u q
  slot := fun b u q _ _ _ => ⟨u.slots, k b u q⟩
  free := fun b u q n _ => by rw [upd_ne (Nat.ne_of_lt (Nat.lt_of_lt_of_le (Heap.lt_size q) hp))]; exact n
  there := fun b u q _ => ⟨u, k b u q⟩
  tups := fun b xs q => by rw [upd_ne (ne_of_none q hn)]; exact q
  frzs := fun b u xs q => by rw [upd_ne (ne_of_none q hn)]; exact q
  tbls := fun b ps q => ⟨#[], by rw [upd_ne (ne_of_none q hn), q]; simp⟩
theorem Un.write (mu : Mut (H x)) (he : e = x ∨ H e = some (.own x)) (k : ∀ b u, b ≠ e → h.get? b = some u → h'.get? b = some u) (heo : ∃ u, h'.get? e = some u) : Un fs ex H (upd H x o) h h' := by
  have hx : ∀ b, H b = none → b ≠ x := fun b n z => by subst z; rw [n] at mu; exact mu
  have hb : ∀ b, H b = none → b ≠ e := fun b n z => by
    subst z
    rcases he with r | r
    · exact hx b n r
    · rw [n] at r; cases r
  have hm : ∀ b u, H b = some u → ¬ Mut (some u) → b ≠ x := fun b u q nm z => by subst z; rw [q] at mu; exact nm mu
  refine ⟨fun b u q n _ _ => k b u (hb b n) q, fun b u q n _ _ => ⟨u.slots, k b u (hb b n) q⟩, fun b u q n _ => by rw [upd_ne (hx b n)]; exact n, fun b u q _ => ?_,
    fun b xs q => by rw [upd_ne (hm b _ q fun z => z)]; exact q, fun b u xs q => by rw [upd_ne (hm b _ q fun z => z)]; exact q, fun b ps q => ⟨#[], by rw [upd_ne (hm b _ q fun z => z), q]; simp⟩⟩
  by_cases hbe : b = e
  · subst hbe; exact heo
  · exact ⟨u, k b u hbe q⟩
end

/-! ### the heap without what is tracked -/
noncomputable def trk (h : Heap) (H : Hp) : List Addr := (List.range h.objs.size).filter fun a => (H a).isSome
noncomputable def hidT (h : Heap) (H : Hp) : Heap := PySem.W.hideAll h (trk h H)
theorem hidT_size (h : Heap) (H : Hp) : (hidT h H).objs.size = h.objs.size := PySem.W.hideAll_size _ _
theorem hidT_get {h : Heap} {H : Hp} {b : Addr} {o : Obj} (e : h.get? b = some o) (n : H b = none) : (hidT h H).get? b = some o :=
  PySem.W.hideAll_get _ e fun hm => by
    have q : (H b).isSome = true := (List.mem_filter.mp hm).2
    rw [n] at q; simp at q
theorem of_hidT {h : Heap} {H : Hp} {b : Addr} {o : Obj} (e : (hidT h H).get? b = some o) : h.get? b = some o ∧ H b = none := by
  have e' : h.get? b = some o := PySem.W.of_hideAll (trk h H) e
  refine ⟨e', ?_⟩
  cases q : H b with
  | none => rfl
  | some x =>
    have hm : b ∈ trk h H := List.mem_filter.mpr ⟨List.mem_range.mpr (Heap.lt_size e'), by simp [q]⟩
    have z : (hidT h H).get? b = none := PySem.W.hideAll_none (trk h H) hm
    rw [z] at e; cases e

/-! ### OpenK's ledger, filled with every new object but one -/
end L2

namespace L2
open PySem PySem.Spec PyProof.Rows

/-- the module's facts, over the base: the heap at the law's entry without what is tracked there -/
structure Mod (K : PySem.W.Frag) (mg : Str → Option Value) (base : Heap) : Prop where
  kin : K.In base
  glob : base.Ns mainGlobals mg
  blt : ∃ mb, base.Ns builtinsNs mb ∧ ∀ x : Str, x ≠ "__name__" → mb x = bootBuiltins x
  nolimit : base.NoLimit

/-- the context: a def's body (or a comprehension's block) running. base: fixed through the whole law; s₀, H₀: the entry; outer: the frames whose slots others may change (a def's callers); stack: all frames that run;
   ex: iterators that were made ahead of the entry and are walked here (a comprehension's); fn: the names whose cells were made at the entry (a def: all; a comprehension's block: its own); calm: not within an except suite; pn: pins that every state bears; xe: what is wanted of an exception that leaves the code -/
structure Cx where
  prog : Program
  w : World
  K : PySem.W.Frag
  mg : Str → Option Value
  base : Heap
  A : Around
  N : List Str
  s_0 : Shared
  H_0 : Hp
  env : Env
  outer : List Env
  stack : List Env
  ex : List Addr
  fn : Str → Bool
  calm : Bool
  pn : List (Addr × Obj)
  xe : Value → Shared → Prop
/-- the callers' frames -/
noncomputable def frs (l : List Env) : List Addr := l.filterMap (·.frame)
noncomputable abbrev Cx.fs (X : Cx) : List Addr := frs X.outer

noncomputable def Vis (sc : Scope) (x : Str) : Prop := sc.names.lookup x = some .local ∨ sc.names.lookup x = some .cell ∨ sc.names.lookup x = some .free
noncomputable def Loc (sc : Scope) (x : Str) : Prop := sc.names.lookup x = some .local ∨ sc.names.lookup x = some .cell
noncomputable def Look (env : Env) (h : Heap) (m : Str → Option Value) (x : Str) (u : Value) : Prop :=
  (env.kindOf x = some .local ∧ m x = some u) ∨ ((env.kindOf x = some .cell ∨ env.kindOf x = some .free) ∧ ∃ c, env.cells.lookup x = some c ∧ h.IsCell c (some u))

structure Cx.Ok (X : Cx) : Prop where
  mod : Mod X.K X.mg X.base
  kind : X.env.scope.kind = .function
  glob : X.env.globals = mainGlobals
  blt : X.env.builtins = builtinsNs
  above : X.s_0.heap.objs.size ≤ X.env.locals
  inj : ∀ x y c, X.env.cells.lookup x = some c → X.env.cells.lookup y = some c → x = y
  has : ∀ x, (X.env.kindOf x = some .cell ∨ X.env.kindOf x = some .free) → ∃ c, X.env.cells.lookup x = some c
  cab : ∀ x c, X.fn x = true → X.env.cells.lookup x = some c → X.s_0.heap.objs.size ≤ c
  hd : X.calm = true → X.A.handled = none
  frames : X.A.frames = some X.stack
  stk : X.stack = X.outer ∨ (X.stack = X.env :: X.outer ∧ X.env.frame = some X.env.locals)
  exf : ∀ b ∈ X.ex, b ≠ X.env.locals ∧ ∀ x c, X.env.cells.lookup x = some c → c ≠ b
  bs : ∀ b o, X.base.get? b = some o → X.s_0.heap.get? b = some o ∧ X.H_0 b = none
  bsz : X.base.objs.size ≤ X.s_0.heap.objs.size
  noex : ∀ b o, X.base.get? b = some o → b ∉ X.ex
  exfs : ∀ b ∈ X.ex, b ∉ X.fs
  funs : X.s_0.heap.FunFrames X.base X.outer
  frf : ∀ b ∈ X.fs, X.H_0 b = none

structure Inv (X : Cx) (pins : List (Addr × Obj)) (σ : List (Option V)) (H : Hp) (s : Shared) : Prop where
  ok : X.Ok
  os : s.os = X.s_0.os
  bare : AllBare s.gens
  base : Un X.fs X.ex X.H_0 H X.s_0.heap s.heap
  loc : ∃ m, s.heap.Ns X.env.locals m ∧ ∀ (i : Nat) (x : Str) (v : V), X.N[i]? = some x → σ[i]? = some (some v) → Vis X.env.scope x → ∃ u, RelV v u ∧ Look X.env s.heap m x u
  cell : ∀ x c, X.env.cells.lookup x = some c → ∃ v, s.heap.IsCell c v
  free : H X.env.locals = none
  freeC : ∀ x c, X.env.cells.lookup x = some c → H c = none
  pin : ∀ p ∈ X.pn ++ pins, s.heap.get? p.1 = some p.2 ∧ H p.1 = none ∧ p.1 ≠ X.env.locals ∧ p.1 ∉ X.fs ∧ ∀ v, p.2.data ≠ .cell v
  hok : HOk X.prog X.w H s.heap
  len : σ.length = X.N.length

section
variable {X : Cx} {pins : List (Addr × Obj)} {σ : List (Option V)} {H H' : Hp} {s : Shared} {h' : Heap}

theorem Cx.Ok.nofr (ok : X.Ok) {b : Addr} {o : Obj} (e : X.base.get? b = some o) : b ∉ X.fs := fun hb => by
  have := (ok.funs.mem hb).1
  rw [e] at this; cases this
theorem Inv.bs (I : Inv X pins σ H s) : ∀ b o, X.base.get? b = some o → s.heap.get? b = some o ∧ H b = none := fun b o e =>
  ⟨I.base.keep b o (I.ok.bs b o e).1 (I.ok.bs b o e).2 (I.ok.nofr e) (I.ok.noex b o e), I.base.free b o (I.ok.bs b o e).1 (I.ok.bs b o e).2 (I.ok.noex b o e)⟩
theorem Inv.bk (I : Inv X pins σ H s) : ∀ b o, X.base.get? b = some o → s.heap.get? b = some o := fun b o e => (I.bs b o e).1
theorem Inv.mod (I : Inv X pins σ H s) : Mod X.K X.mg X.base := I.ok.mod
theorem Inv.kIn (I : Inv X pins σ H s) : X.K.In s.heap := I.ok.mod.kin.keeps I.bk
theorem Inv.lt (I : Inv X pins σ H s) : X.env.locals < s.heap.objs.size := let ⟨_, hn, _⟩ := I.loc; hn.lt
theorem Inv.sz (I : Inv X pins σ H s) : X.s_0.heap.objs.size ≤ s.heap.objs.size := Nat.le_trans I.ok.above (Nat.le_of_lt I.lt)
theorem Inv.nofs (I : Inv X pins σ H s) {a : Addr} (h : s.heap.objs.size ≤ a) : a ∉ X.fs := fun hb => by
  obtain ⟨_, o, ho, _⟩ := I.ok.funs.mem hb
  exact absurd (Nat.lt_of_lt_of_le (Heap.lt_size ho) (Nat.le_trans I.sz h)) (Nat.lt_irrefl _)
theorem Inv.cne (I : Inv X pins σ H s) : ∀ x c, X.env.cells.lookup x = some c → c ≠ X.env.locals := fun x c e z => by
  obtain ⟨v, o, ho, hd⟩ := I.cell x c e
  obtain ⟨m, ⟨o', es, ep, ho', hd', _⟩, _⟩ := I.loc
  rw [z, ho'] at ho; cases ho; rw [hd'] at hd; cases hd
theorem Inv.funs (I : Inv X pins σ H s) : s.heap.FunFrames X.base X.outer := by
  have all : ∀ (l : List Env), (∀ b ∈ frs l, b ∈ X.fs) → X.s_0.heap.FunFrames X.base l → s.heap.FunFrames X.base l := by
    intro l
    induction l with
    | nil => intro _ _; trivial
    | cons env r ih =>
      intro hs hl
      obtain ⟨hk, ⟨L, o, hf, hn, ho, hd⟩, hr⟩ := hl
      have hL : L ∈ X.fs := hs L (by unfold frs; rw [List.filterMap_cons, hf]; exact List.mem_cons_self)
      obtain ⟨sl, e⟩ := I.base.slot L o ho (I.ok.frf L hL) hL fun z => I.ok.exfs L z hL
      exact ⟨hk, ⟨L, _, hf, hn, e, hd⟩, ih (fun b hb => hs b (by unfold frs; rw [List.filterMap_cons, hf]; exact List.mem_cons_of_mem _ hb)) hr⟩
  exact all X.outer (fun _ hb => hb) I.ok.funs

/-- the frames that run, for a call -/
theorem Inv.stack (I : Inv X pins σ H s) : s.heap.FunFrames X.base X.stack := by
  rcases I.ok.stk with e | ⟨e, hf⟩
  · rw [e]; exact I.funs
  · rw [e]
    obtain ⟨m, hn, _⟩ := I.loc
    refine .cons (by rw [I.ok.kind]; decide) hf hn ?_ I.funs
    exact Heap.get?_none_of_le (Nat.le_trans I.ok.bsz I.ok.above)
theorem Inv.stkSub (I : Inv X pins σ H s) : ∀ b ∈ frs X.stack, b ∈ X.env.locals :: X.fs := fun b hb => by
  rcases I.ok.stk with e | ⟨e, hf⟩
  · rw [e] at hb; exact List.mem_cons_of_mem _ hb
  · rw [e] at hb
    unfold frs at hb
    rw [List.filterMap_cons, hf] at hb
    exact hb
theorem Inv.stkFree (I : Inv X pins σ H s) : ∀ b ∈ frs X.stack, H b = none := fun b hb => by
  rcases List.mem_cons.mp (I.stkSub b hb) with e | hb
  · rw [e]; exact I.free
  · obtain ⟨_, o, ho, _⟩ := I.ok.funs.mem hb
    exact I.base.free b o ho (I.ok.frf b hb) fun z => I.ok.exfs b z hb

/-- THE STEP: the untracked objects but the frame and the records at ch are kept (the callers' frames up to slots), the frame's map is kept, the new abstract heap is held -/
theorem Inv.step {g' : Array GenState} {t' : Nat} {d' : Drawn} {ch : List Addr} (I : Inv X pins σ H s)
    (hch : ∀ b ∈ ch, (b ∈ X.ex ∨ X.s_0.heap.objs.size ≤ b) ∧ b ≠ X.env.locals ∧ (∀ x c, X.env.cells.lookup x = some c → c ≠ b) ∧ ∀ p ∈ X.pn ++ pins, p.1 ≠ b)
    (keep : ∀ b o, b ≠ X.env.locals → b ∉ X.fs → b ∉ ch → s.heap.get? b = some o → H b = none → h'.get? b = some o)
    (slot : ∀ b o, b ≠ X.env.locals → b ∈ X.fs → b ∉ ch → s.heap.get? b = some o → H b = none → ∃ sl, h'.get? b = some { o with slots := sl }) (free : ∀ b o, b ∉ ch → s.heap.get? b = some o → H b = none → H' b = none)
    (there : ∀ b o, b ∉ ch → s.heap.get? b = some o → ∃ o', h'.get? b = some o')
    (tups : ∀ b xs, H b = some (.tup xs) → H' b = some (.tup xs)) (frzs : ∀ b o u, H b = some (.frz o u) → H' b = some (.frz o u)) (tbls : ∀ b ps, H b = some (.tbl ps) → ∃ more, H' b = some (.tbl (ps ++ more)))
    (ns : ∀ m, s.heap.Ns X.env.locals m → h'.Ns X.env.locals m) (hok : HOk X.prog X.w H' h') (hg : AllBare g') :
    Inv X pins σ H' { s with heap := h', gens := g', drawn := d', toks := t' } := by
  have neL : ∀ b o, X.s_0.heap.get? b = some o → b ≠ X.env.locals := fun b o e => Nat.ne_of_lt (Nat.lt_of_lt_of_le (Heap.lt_size e) I.ok.above)
  have neC : ∀ b o, X.s_0.heap.get? b = some o → b ∉ X.ex → b ∉ ch := fun b o e hx hb => by
    rcases (hch b hb).1 with z | z
    · exact hx z
    · exact absurd (Nat.lt_of_lt_of_le (Heap.lt_size e) z) (Nat.lt_irrefl _)
  have cellK : ∀ x c, X.env.cells.lookup x = some c → ∀ v, s.heap.IsCell c v → h'.IsCell c v := fun x c e v ⟨o, ho, hd⟩ => by
    have nch : c ∉ ch := fun z => (hch c z).2.2.1 x c e rfl
    by_cases hc : c ∈ X.fs
    · obtain ⟨sl, q⟩ := slot c o (I.cne x c e) hc nch ho (I.freeC x c e)
      exact ⟨_, q, hd⟩
    · exact ⟨o, keep c o (I.cne x c e) hc nch ho (I.freeC x c e), hd⟩
  refine ⟨I.ok, I.os, hg, ⟨fun b o e n hb hx => ?_, fun b o e n hb hx => ?_, fun b o e n hx => ?_, fun b o e hx => ?_, fun b xs e => tups b xs (I.base.tups b xs e), fun b o xs e => frzs b o xs (I.base.frzs b o xs e), fun b ps e => ?_⟩, ?_, fun x c e => ?_, ?_, fun x c e => ?_, fun p hp => ?_, hok, I.len⟩
  · exact keep b o (neL b o e) hb (neC b o e hx) (I.base.keep b o e n hb hx) (I.base.free b o e n hx)
  · obtain ⟨sl, e1⟩ := I.base.slot b o e n hb hx
    obtain ⟨sl', e2⟩ := slot b _ (neL b o e) hb (neC b o e hx) e1 (I.base.free b o e n hx)
    exact ⟨sl', e2⟩
  · obtain ⟨o', e1⟩ := I.base.there b o e hx
    exact free b o' (neC b o e hx) e1 (I.base.free b o e n hx)
  · obtain ⟨o', e1⟩ := I.base.there b o e hx
    exact there b o' (neC b o e hx) e1
  · obtain ⟨m1, e1⟩ := I.base.tbls b ps e
    obtain ⟨m2, e2⟩ := tbls b _ e1
    exact ⟨m1 ++ m2, by rw [e2, Array.append_assoc]⟩
  · obtain ⟨m, hn, hl⟩ := I.loc
    refine ⟨m, ns m hn, fun i x v e1 e2 e3 => ?_⟩
    obtain ⟨u, r, l⟩ := hl i x v e1 e2 e3
    refine ⟨u, r, ?_⟩
    rcases l with l | ⟨k, c, e, z⟩
    · exact .inl l
    · exact .inr ⟨k, c, e, cellK x c e _ z⟩
  · obtain ⟨v, z⟩ := I.cell x c e
    exact ⟨v, cellK x c e v z⟩
  · obtain ⟨m, ⟨o, _, _, ho, _⟩, _⟩ := I.loc
    exact free _ o (fun z => (hch _ z).2.1 rfl) ho I.free
  · obtain ⟨v, o, ho, hd⟩ := I.cell x c e
    exact free c o (fun z => (hch c z).2.2.1 x c e rfl) ho (I.freeC x c e)
  · obtain ⟨e, n, ne, nf, d⟩ := I.pin p hp
    have nch : p.1 ∉ ch := fun z => (hch p.1 z).2.2.2 p hp rfl
    exact ⟨keep p.1 p.2 ne nf nch e n, free p.1 p.2 nch e n, ne, nf, d⟩
/-- .. where the frame's own object is kept too -/
theorem Inv.un {t' : Nat} (I : Inv X pins σ H s) (u : Un X.fs [] H H' s.heap h') (hok : HOk X.prog X.w H' h') : Inv X pins σ H' { s with heap := h', toks := t' } := by
  obtain ⟨m, ⟨o, es, ep, ho, r⟩, _⟩ := id I.loc
  obtain ⟨sl, hL⟩ := u.any ho I.free (by simp)
  exact I.step (g' := s.gens) (d' := s.drawn) (ch := []) (fun _ z => nomatch z) (fun b o _ hb _ e n => u.keep b o e n hb (by simp)) (fun b o _ hb _ e n => u.slot b o e n hb (by simp)) (fun b o _ e n => u.free b o e n (by simp)) (fun b o _ e => u.there b o e (by simp)) u.tups u.frzs u.tbls (fun m' hm => by
    obtain ⟨o', es', ep', ho', r'⟩ := hm
    rw [ho] at ho'; cases ho'
    exact ⟨_, es', ep', hL, r'⟩) hok I.bare
/-- behind a call (or a comprehension's block): the slots of this frame may have changed too, the records at ch may have turned -/
theorem Inv.call {g' : Array GenState} {t' : Nat} {d' : Drawn} {ch : List Addr} (I : Inv X pins σ H s) (u : Un (frs X.stack) ch H H' s.heap h') (hok : HOk X.prog X.w H' h') (hg : AllBare g')
    (hch : ∀ b ∈ ch, (b ∈ X.ex ∨ X.s_0.heap.objs.size ≤ b) ∧ b ≠ X.env.locals ∧ (∀ x c, X.env.cells.lookup x = some c → c ≠ b) ∧ ∀ p ∈ X.pn ++ pins, p.1 ≠ b) :
    Inv X pins σ H' { s with heap := h', gens := g', drawn := d', toks := t' } := by
  obtain ⟨m, ⟨o, es, ep, ho, r⟩, _⟩ := id I.loc
  obtain ⟨sl, hL⟩ := u.any ho I.free fun z => (hch _ z).2.1 rfl
  exact I.step (ch := ch) hch (fun b o hL hb hc e n => u.keep b o e n (fun z => (List.mem_cons.mp (I.stkSub b z)).elim hL hb) hc) (fun b o _ _ hc e n => u.any e n hc) (fun b o hc e n => u.free b o e n hc) (fun b o hc e => u.there b o e hc) u.tups u.frzs u.tbls (fun m' hm => by
    obtain ⟨o', es', ep', ho', r'⟩ := hm
    rw [ho] at ho'; cases ho'
    exact ⟨_, es', ep', hL, r'⟩) hok hg
/-- an untracked record of ours (an iterator) has turned -/
theorem Inv.turned {t' : Nat} {it : Addr} (I : Inv X pins σ H s) (k : ∀ b o, b ≠ it → s.heap.get? b = some o → h'.get? b = some o) (hn : H it = none) (hL : it ≠ X.env.locals)
    (h1 : it ∈ X.ex ∨ X.s_0.heap.objs.size ≤ it) (h2 : ∀ x c, X.env.cells.lookup x = some c → c ≠ it) (h3 : ∀ p ∈ X.pn ++ pins, p.1 ≠ it) : Inv X pins σ H { s with heap := h', toks := t' } := by
  have nit : ∀ b u, H b = some u → b ≠ it := fun b u e z => by rw [z, hn] at e; cases e
  refine I.step (g' := s.gens) (d' := s.drawn) (ch := [it]) (fun b hb => ?_) (fun b o _ _ hc e _ => k b o (fun z => hc (by simp [z])) e) (fun b o _ _ hc e _ => ⟨o.slots, k b o (fun z => hc (by simp [z])) e⟩) (fun _ _ _ _ n => n)
    (fun b o hc e => ⟨o, k b o (fun z => hc (by simp [z])) e⟩) (fun _ _ e => e) (fun _ _ _ e => e) (fun b ps e => ⟨#[], by rw [e]; simp⟩) (fun m hm => ?_) (fun b u e => ?_) I.bare
  · have e : b = it := by simpa using hb
    subst e
    exact ⟨h1, hL, h2, h3⟩
  · obtain ⟨o, es, ep, ho, r⟩ := hm
    exact ⟨o, es, ep, k _ o (Ne.symm hL) ho, r⟩
  · refine (I.hok b u e).stay (fun c v hc q => k c v ?_ q) (fun _ q => q) fun _ _ q => q
    rcases hc with z | z
    · rw [z]; exact nit b u e
    · exact nit c _ z
theorem Inv.tok (I : Inv X pins σ H s) (t : Nat) : Inv X pins σ H { s with toks := t } := I.un (h' := s.heap) (t' := t) Un.refl I.hok
/-- all objects kept -/
theorem Inv.kept {t' : Nat} (I : Inv X pins σ H s) (k : ∀ b u, s.heap.get? b = some u → h'.get? b = some u) : Inv X pins σ H { s with heap := h', toks := t' } := I.un (Un.kept k) (I.hok.kept k)
/-- a new object laid and tracked -/
theorem Inv.laid {a : Addr} {o : HO} {t' : Nat} (I : Inv X pins σ H s) (k : ∀ b u, s.heap.get? b = some u → h'.get? b = some u) (hp : s.heap.objs.size ≤ a) (new : ObjOk X.prog X.w (upd H a o) h' a o) :
    Inv X pins σ (upd H a o) { s with heap := h', toks := t' } := I.un (Un.laid k hp (I.hok.fresh hp)) (I.hok.laid k hp new)
/-- an object written -/
theorem Inv.write {x e : Addr} {o : HO} {t' : Nat} (I : Inv X pins σ H s) (mu : Mut (H x)) (he : e = x ∨ H e = some (.own x)) (k : ∀ b u, b ≠ e → s.heap.get? b = some u → h'.get? b = some u) (heo : ∃ u, h'.get? e = some u)
    (new : ObjOk X.prog X.w (upd H x o) h' x o) : Inv X pins σ (upd H x o) { s with heap := h', toks := t' } := I.un (Un.write mu he k heo) (I.hok.write mu he k heo new)
/-- forgetting slots, pins -/
theorem Inv.weak {σ' : List (Option V)} (I : Inv X pins σ H s) (hl : σ'.length = σ.length) (w : ∀ (i : Nat) v, σ'[i]? = some (some v) → σ[i]? = some (some v)) : Inv X pins σ' H s :=
  ⟨I.ok, I.os, I.bare, I.base, let ⟨m, hn, hl'⟩ := I.loc; ⟨m, hn, fun i x v e1 e2 e3 => hl' i x v e1 (w i v e2) e3⟩, I.cell, I.free, I.freeC, I.pin, I.hok, hl.trans I.len⟩
theorem Inv.pins_of {pins' : List (Addr × Obj)} (I : Inv X pins σ H s) (h : ∀ p ∈ pins', s.heap.get? p.1 = some p.2 ∧ H p.1 = none ∧ p.1 ≠ X.env.locals ∧ p.1 ∉ X.fs ∧ ∀ v, p.2.data ≠ .cell v) : Inv X pins' σ H s :=
  ⟨I.ok, I.os, I.bare, I.base, I.loc, I.cell, I.free, I.freeC, fun p hp => (List.mem_append.mp hp).elim (fun z => I.pin p (List.mem_append_left _ z)) (h p), I.hok, I.len⟩

theorem nodup_ix {N : List Str} (hN : N.Nodup) {i j : Nat} {x : Str} (a : N[i]? = some x) (b : N[j]? = some x) : i = j := by
  obtain ⟨h1, e1⟩ := List.getElem?_eq_some_iff.mp a
  obtain ⟨h2, e2⟩ := List.getElem?_eq_some_iff.mp b
  exact (List.getElem_inj hN).mp (e1.trans e2.symm)

/-- a name is stored; what changed -/
theorem store_ok2 {M : Model} {A : Around} {E : Value → Shared → Prop} {i : Nat} {x : Str} {v : V} {u : Value} {Q : Unit → Shared → Prop} (I : Inv X pins σ H s) (hN : X.N.Nodup) (hi : X.N[i]? = some x) (hx : Loc X.env.scope x) (r : RelV v u)
    (h : ∀ s', Inv X pins (σ.set i (some v)) H s' → (∃ a, Heap.SameBut a s.heap s'.heap ∧ (a = X.env.locals ∨ X.env.cells.lookup x = some a)) → Q () s') (hf : X.fn x = true ∨ X.env.scope.names.lookup x = some .local := by first | exact .inl rfl | exact .inr rfl | assumption) : wpAny M A (storeName X.env x u) Q E s := by
  obtain ⟨m, hn, hl⟩ := id I.loc
  have hcls : (X.env.scope.kind == .class || (X.env.scope.kind == .module && X.env.locals != X.env.globals)) = false := by rw [I.ok.kind]; rfl
  have hiσ : i < σ.length := by rw [I.len]; exact (List.getElem?_eq_some_iff.mp hi).1
  have cne := I.cne
  have tracked : ∀ {a : Addr} {h' : Heap}, (∃ o, s.heap.get? a = some o ∧ H a = none) → Heap.SameBut a s.heap h' → HOk X.prog X.w H h' := fun {a h'} ha hs b ob e => by
    obtain ⟨_, _, hfree⟩ := ha
    refine (I.hok b ob e).stay (fun c w' hc q => (hs.2 c ?_).trans q) (fun _ q => q) fun _ _ q => q
    rintro rfl
    rcases hc with rfl | hc
    · rw [hfree] at e; cases e
    · rw [hfree] at hc; cases hc
  rcases hx with hk | hk
  · refine wpAny_storeName_local hk hn (fun h' hn' hs => ?_) hcls
    obtain ⟨oL, _, _, hoL, _⟩ := id hn
    refine h _ ⟨I.ok, I.os, I.bare, ⟨fun b o e n hb hx => ?_, fun b o e n hb hx => ?_, I.base.free, fun b o e hx => ?_, I.base.tups, I.base.frzs, I.base.tbls⟩, ⟨_, hn', fun j y v' e1 e2 e3 => ?_⟩, fun y c e => ?_, I.free, I.freeC, fun p hp => ?_, tracked ⟨oL, hoL, I.free⟩ hs, by simpa using I.len⟩ ⟨_, hs, .inl rfl⟩
    · exact (hs.2 b (Nat.ne_of_lt (Nat.lt_of_lt_of_le (Heap.lt_size e) I.ok.above))).trans (I.base.keep b o e n hb hx)
    · obtain ⟨sl, e1⟩ := I.base.slot b o e n hb hx
      exact ⟨sl, (hs.2 b (Nat.ne_of_lt (Nat.lt_of_lt_of_le (Heap.lt_size e) I.ok.above))).trans e1⟩
    · obtain ⟨o', e1⟩ := I.base.there b o e hx
      exact ⟨o', (hs.2 b (Nat.ne_of_lt (Nat.lt_of_lt_of_le (Heap.lt_size e) I.ok.above))).trans e1⟩
    · by_cases hj : j = i
      · subst hj
        rw [hi] at e1; cases e1
        rw [List.getElem?_set_self hiσ] at e2
        cases e2
        exact ⟨u, r, .inl ⟨hk, by simp⟩⟩
      · rw [List.getElem?_set_ne (Ne.symm hj)] at e2
        obtain ⟨u', r', q⟩ := hl j y v' e1 e2 e3
        refine ⟨u', r', ?_⟩
        rcases q with ⟨k, e⟩ | ⟨k, c, e, z⟩
        · refine .inl ⟨k, ?_⟩
          have : y ≠ x := fun e => hj (nodup_ix hN e1 (e ▸ hi))
          simp [this, e]
        · exact .inr ⟨k, c, e, z.sameBut hs (cne y c e)⟩
    · obtain ⟨w', z⟩ := I.cell y c e
      exact ⟨w', z.sameBut hs (cne y c e)⟩
    · obtain ⟨e, n, ne, nf, d⟩ := I.pin p hp
      exact ⟨(hs.2 p.1 ne).trans e, n, ne, nf, d⟩
  · have hfn : X.fn x = true := by
      rcases hf with z | z
      · exact z
      · rw [z] at hk; cases hk
    obtain ⟨c, hc⟩ := I.ok.has x (.inl hk)
    obtain ⟨w', z⟩ := I.cell x c hc
    refine wpAny_storeName_cell I.ok.kind hk hc z (fun h' hc' hs => ?_)
    obtain ⟨oc, hoc, hocd⟩ := id z
    refine h { s with heap := h' } ⟨I.ok, I.os, I.bare, ⟨fun b o e n hb hx => ?_, fun b o e n hb hx => ?_, I.base.free, fun b o e hx => ?_, I.base.tups, I.base.frzs, I.base.tbls⟩, ⟨m, hn.sameBut hs (Ne.symm (cne x c hc)), fun j y v' e1 e2 e3 => ?_⟩, fun y c' e => ?_, I.free, I.freeC, fun p hp => ?_, tracked ⟨oc, hoc, I.freeC x c hc⟩ hs, by simpa using I.len⟩ ⟨c, hs, .inr hc⟩
    · exact (hs.2 b (Nat.ne_of_lt (Nat.lt_of_lt_of_le (Heap.lt_size e) (I.ok.cab x c hfn hc)))).trans (I.base.keep b o e n hb hx)
    · obtain ⟨sl, e1⟩ := I.base.slot b o e n hb hx
      exact ⟨sl, (hs.2 b (Nat.ne_of_lt (Nat.lt_of_lt_of_le (Heap.lt_size e) (I.ok.cab x c hfn hc)))).trans e1⟩
    · obtain ⟨o', e1⟩ := I.base.there b o e hx
      exact ⟨o', (hs.2 b (Nat.ne_of_lt (Nat.lt_of_lt_of_le (Heap.lt_size e) (I.ok.cab x c hfn hc)))).trans e1⟩
    · by_cases hj : j = i
      · subst hj
        rw [hi] at e1; cases e1
        rw [List.getElem?_set_self hiσ] at e2
        cases e2
        exact ⟨u, r, .inr ⟨.inl hk, c, hc, hc'⟩⟩
      · rw [List.getElem?_set_ne (Ne.symm hj)] at e2
        obtain ⟨u', r', q⟩ := hl j y v' e1 e2 e3
        refine ⟨u', r', ?_⟩
        rcases q with q | ⟨k, c', e, z'⟩
        · exact .inl q
        · refine .inr ⟨k, c', e, z'.sameBut hs ?_⟩
          rintro rfl
          exact hj (nodup_ix hN e1 (I.ok.inj _ _ _ e hc ▸ hi))
    · by_cases hcc : c' = c
      · subst hcc; exact ⟨_, hc'⟩
      · obtain ⟨w2, z2⟩ := I.cell y c' e
        exact ⟨w2, z2.sameBut hs hcc⟩
    · obtain ⟨e, n, ne, nf, d⟩ := I.pin p hp
      refine ⟨(hs.2 p.1 ?_).trans e, n, ne, nf, d⟩
      intro q
      rw [q, hoc] at e
      have q' : oc = p.2 := Option.some.inj e
      exact d w' (by rw [← q']; exact hocd)
theorem store_ok {M : Model} {A : Around} {E : Value → Shared → Prop} {i : Nat} {x : Str} {v : V} {u : Value} {Q : Unit → Shared → Prop} (I : Inv X pins σ H s) (hN : X.N.Nodup) (hi : X.N[i]? = some x) (hx : Loc X.env.scope x) (r : RelV v u)
    (h : ∀ s', Inv X pins (σ.set i (some v)) H s' → Q () s') (hf : X.fn x = true ∨ X.env.scope.names.lookup x = some .local := by first | exact .inl rfl | exact .inr rfl | assumption) : wpAny M A (storeName X.env x u) Q E s :=
  store_ok2 I hN hi hx r (fun s' I' _ => h s' I') hf
/-- behind a call or a block, the state as it is -/
theorem Inv.call' {s' : Shared} {ch : List Addr} (I : Inv X pins σ H s) (ho : s'.os = s.os) (u : Un (frs X.stack) ch H H' s.heap s'.heap) (hok : HOk X.prog X.w H' s'.heap) (hg : AllBare s'.gens)
    (hch : ∀ b ∈ ch, (b ∈ X.ex ∨ X.s_0.heap.objs.size ≤ b) ∧ b ≠ X.env.locals ∧ (∀ x c, X.env.cells.lookup x = some c → c ≠ b) ∧ ∀ p ∈ X.pn ++ pins, p.1 ≠ b) : Inv X pins σ H' s' := by
  obtain ⟨h', g', d', t', o'⟩ := s'
  have e : o' = s.os := ho
  subst e
  exact I.call (g' := g') (t' := t') (d' := d') u hok hg hch
end

/-! ### the judgements -/
/-- an exception: its class, its own dict's address (where it has one), the abstract heap behind it -/
noncomputable abbrev XK := Value → Option Addr → Hp → Prop
noncomputable abbrev St := List (Option V)
noncomputable abbrev VK := V → Hp → Prop
/-- an expression's reading; a test's; an argument list's -/
noncomputable abbrev TE := St → Hp → VK → Prop
noncomputable abbrev TT := St → Hp → (Bool → Hp → Prop) → Prop
noncomputable abbrev TA := St → Hp → (List V → Hp → Prop) → Prop
/-- what is wanted behind a statement -/
structure Ends where
  nx : St → Hp → Prop
  rt : VK
  bk : St → Hp → Prop := fun _ _ => False
  ct : St → Hp → Prop := fun _ _ => False
noncomputable abbrev TS := Ends → St → Hp → Prop

noncomputable def EP (X : Cx) (pins : List (Addr × Obj)) (σ : St) (Q : VK) (u : Value) (s' : Shared) : Prop := ∃ v H', Inv X pins σ H' s' ∧ RelV v u ∧ Q v H'
noncomputable def TP (X : Cx) (pins : List (Addr × Obj)) (σ : St) (Q : Bool → Hp → Prop) (b : Bool) (s' : Shared) : Prop := ∃ H', Inv X pins σ H' s' ∧ Q b H'
noncomputable def AP (X : Cx) (pins : List (Addr × Obj)) (σ : St) (Q : List V → Hp → Prop) (us : List Value) (s' : Shared) : Prop := ∃ vs H', Inv X pins σ H' s' ∧ Vals vs us ∧ Q vs H'
noncomputable def SP (X : Cx) (pins : List (Addr × Obj)) (D : Ends) (f : Flow) (s' : Shared) : Prop :=
  match f with
  | .next => ∃ σ' H', Inv X pins σ' H' s' ∧ D.nx σ' H'
  | .brk => ∃ σ' H', Inv X pins σ' H' s' ∧ D.bk σ' H'
  | .cont => ∃ σ' H', Inv X pins σ' H' s' ∧ D.ct σ' H'
  | .ret u => ∃ v σ' H', Inv X pins σ' H' s' ∧ RelV v u ∧ D.rt v H'

noncomputable def PE (X : Cx) (e : Expr) (t : TE) : Prop :=
  ∀ (pins : List (Addr × Obj)) (s : Shared) (σ : St) (H : Hp) (Q : VK), Inv X pins σ H s → t σ H Q → wpAny (model X.prog X.w) X.A (eval e X.env) (EP X pins σ Q) X.xe s
noncomputable def PT (X : Cx) (e : Expr) (t : TT) : Prop :=
  ∀ (pins : List (Addr × Obj)) (s : Shared) (σ : St) (H : Hp) (Q : Bool → Hp → Prop), Inv X pins σ H s → t σ H Q → wpAny (model X.prog X.w) X.A (isTrue e X.env (eval e X.env)) (TP X pins σ Q) X.xe s
/-- a test whatever its 'whole' is (and, or) -/
noncomputable def PW (X : Cx) (e : Expr) (t : TT) : Prop :=
  ∀ (whole : Sem Value) (pins : List (Addr × Obj)) (s : Shared) (σ : St) (H : Hp) (Q : Bool → Hp → Prop), Inv X pins σ H s → t σ H Q → wpAny (model X.prog X.w) X.A (isTrue e X.env whole) (TP X pins σ Q) X.xe s
theorem PW.pt {X : Cx} {e : Expr} {t : TT} (h : PW X e t) : PT X e t := h _
/-- an argument list (no star), from the left -/
noncomputable def PA (X : Cx) (es : List Expr) (t : TA) : Prop :=
  ∀ (pos : Pos) (pins : List (Addr × Obj)) (s : Shared) (σ : St) (H : Hp) (Q : List V → Hp → Prop), Inv X pins σ H s → t σ H Q → wpAny (model X.prog X.w) X.A (spliced (backTo pos (starEach es X.env))) (AP X pins σ Q) X.xe s
noncomputable def PS (X : Cx) (st : Stmt) (t : TS) : Prop :=
  ∀ (pins : List (Addr × Obj)) (s : Shared) (σ : St) (H : Hp) (D : Ends), Inv X pins σ H s → t D σ H → wpAny (model X.prog X.w) X.A (exec st X.env) (SP X pins D) X.xe s
noncomputable def PSs (X : Cx) (st : List Stmt) (t : TS) : Prop :=
  ∀ (pins : List (Addr × Obj)) (s : Shared) (σ : St) (H : Hp) (D : Ends), Inv X pins σ H s → t D σ H → wpAny (model X.prog X.w) X.A (execs st X.env) (SP X pins D) X.xe s
/-- weaken the end -/
theorem thn {α : Type} {t : Sem α} {Q Q' : α → Shared → Prop} {M : Model} {A : Around} {E : Value → Shared → Prop} {s : Shared} (h : wpAny M A t Q E s) (hQ : ∀ a s, Q a s → Q' a s) : wpAny M A t Q' E s := wpAny_mono h hQ fun _ _ x => x
end L2

namespace L2
open PySem PySem.Spec PyProof.Rows
section
variable {X : Cx}

/-! ### names and constants -/
noncomputable def tVar (i : Nat) : TE := fun σ H Q => ∃ v, σ[i]? = some (some v) ∧ Q v H
noncomputable def tC (v : V) : TE := fun _ H Q => Q v H
theorem pe_var {i : Nat} {x : Str} {pos : Pos} (hN : X.N[i]? = some x) (hv : Vis X.env.scope x) (hd : (x == ("__debug__" : Str)) = false := by decide) (hcd : (x == ("__classdict__" : Str)) = false := by decide) : PE X (.Name x pos) (tVar i) := by
  intro pins s σ H Q I h
  obtain ⟨v, e, h⟩ := h
  obtain ⟨m, hn, hl⟩ := I.loc
  obtain ⟨u, r, l⟩ := hl i x v hN e hv
  have fin : EP X pins σ Q u s := ⟨v, H, I, r, h⟩
  rcases l with ⟨hk, hm⟩ | ⟨hk, c, hc, hcell⟩
  · exact wpAny_Name (wpAny_loadName_local I.ok.kind hk hn hm fin) hd
  · rcases hk with hk | hk
    · exact wpAny_Name (wpAny_loadName_cell I.ok.kind hk hc hcell fin) hd
    · exact wpAny_Name (wpAny_loadName_free I.ok.kind hk hc hcell fin hcd) hd
theorem pe_int {i j pos} : PE X (.Constant (.int i) j pos) (tC (.int i)) := fun _ _ _ H _ I h => wpAny_Constant_int ⟨.int i, H, I.tok _, ⟨_, rfl⟩, h⟩
theorem pe_bl {b j pos} : PE X (.Constant (.bool b) j pos) (tC (.bl b)) := fun _ _ _ H _ I h => Constant_bool ⟨.bl b, H, I, rfl, h⟩

/-- a global name of the def -/
noncomputable def Gl (X : Cx) (x : Str) : Prop := X.env.kindOf x = some .globalImplicit
theorem ld_glob {E : Value → Shared → Prop} {pins : List (Addr × Obj)} {s : Shared} {σ : St} {H : Hp} {x : Str} {u : Value} {pos : Pos} {Q : Value → Shared → Prop} (I : Inv X pins σ H s) (hg : Gl X x) (hm : X.mg x = some u) (h : Q u s)
    (hd : (x == ("__debug__" : Str)) = false := by decide) : wpAny (model X.prog X.w) X.A (eval (.Name x pos) X.env) Q E s :=
  Calls.Name_function_global I.ok.kind hg (Calls.loadGlobal_global (by rw [I.ok.glob]; exact I.mod.glob.keeps I.bk) hm h) hd
theorem ld_blt {E : Value → Shared → Prop} {pins : List (Addr × Obj)} {s : Shared} {σ : St} {H : Hp} {x : Str} {u : Value} {pos : Pos} {Q : Value → Shared → Prop} (I : Inv X pins σ H s) (hg : Gl X x) (hm : X.mg x = none) (hv : bootBuiltins x = some u) (h : Q u s)
    (hn : x ≠ "__name__" := by decide) (hd : (x == ("__debug__" : Str)) = false := by decide) : wpAny (model X.prog X.w) X.A (eval (.Name x pos) X.env) Q E s := by
  obtain ⟨mb, h1, h2⟩ := I.mod.blt
  exact Calls.Name_function_global I.ok.kind hg (Calls.loadGlobal_builtin (by rw [I.ok.glob]; exact I.mod.glob.keeps I.bk) hm (by rw [I.ok.blt]; exact h1.keeps I.bk) ((h2 x hn).trans hv) h) hd
/-- a module's constant, a class, a function, as a value -/
theorem pe_glob {x : Str} {v : V} {u : Value} {pos : Pos} (hg : Gl X x) (hm : X.mg x = some u) (r : RelV v u) (hd : (x == ("__debug__" : Str)) = false := by decide) : PE X (.Name x pos) (tC v) :=
  fun _ _ _ H _ I h => ld_glob I hg hm ⟨v, H, I, r, h⟩ hd

/-! ### arithmetic -/
variable {a b : Expr} {ta tb : TE} {pos : Pos}

/-! ### comparisons -/
/-- a comparison as a value, as a test -/
noncomputable def tB (t : TE) : TT := fun σ H Q => t σ H fun x H1 => ∃ c, x = .bl c ∧ Q c H1
/-- an expression whose value is a bool, as a test -/
theorem pt_val {e : Expr} {t : TE} (h : PE X e t) (he : ∀ whole, isTrue e X.env whole = (do let v ← whole; standAt e.pos; holding [v] (truthy v)) := by intro _; rfl) : PT X e (tB t) := by
  intro pins s σ H Q I hw
  refine isTrue_plain (thn (h pins s σ H _ I hw) fun v s1 hPat => ?_) (he _)
  obtain ⟨x, H1, I1, r1, q1⟩ := hPat
  obtain ⟨d, rfl, q⟩ := q1
  cases r1
  exact wpAny_truthy_bool ⟨H1, I1, q⟩

/-! ### and, or, not -/
variable {tA tB' : TT} {rest : List Expr}
noncomputable def tAnd (t u : TT) : TT := fun σ H Q => t σ H fun c H1 => if c = true then u σ H1 Q else Q false H1
noncomputable def tOr (t u : TT) : TT := fun σ H Q => t σ H fun c H1 => if c = true then Q true H1 else u σ H1 Q
noncomputable def tNot (t : TT) : TT := fun σ H Q => t σ H fun c H1 => Q (!c) H1
theorem pw_and1 (ha : PT X a tA) : PW X (.BoolOp .And [a] pos) tA := by
  intro wh pins s σ H Q I h
  refine isTrue_and (thn (ha pins s σ H Q I h) fun c s1 e => ?_)
  cases c with
  | true => exact isTrue_and_nil e
  | false => exact e
theorem pw_or1 (ha : PT X a tA) : PW X (.BoolOp .Or [a] pos) tA := by
  intro wh pins s σ H Q I h
  refine isTrue_or (thn (ha pins s σ H Q I h) fun c s1 e => ?_)
  cases c with
  | false => exact isTrue_or_nil e
  | true => exact e
theorem pw_and (ha : PT X a tA) (hb : PW X (.BoolOp .And (b :: rest) pos) tB') : PW X (.BoolOp .And (a :: b :: rest) pos) (tAnd tA tB') := by
  intro wh pins s σ H Q I h
  refine isTrue_and (thn (ha pins s σ H _ I h) fun c s1 hPat => ?_)
  obtain ⟨H1, I1, q1⟩ := hPat
  cases c with
  | true => exact hb wh pins s1 σ H1 Q I1 q1
  | false => exact ⟨H1, I1, q1⟩
theorem pw_or (ha : PT X a tA) (hb : PW X (.BoolOp .Or (b :: rest) pos) tB') : PW X (.BoolOp .Or (a :: b :: rest) pos) (tOr tA tB') := by
  intro wh pins s σ H Q I h
  refine isTrue_or (thn (ha pins s σ H _ I h) fun c s1 hPat => ?_)
  obtain ⟨H1, I1, q1⟩ := hPat
  cases c with
  | true => exact ⟨H1, I1, q1⟩
  | false => exact hb wh pins s1 σ H1 Q I1 q1
theorem pt_not (ha : PT X a tA) : PT X (.UnaryOp .Not a pos) (tNot tA) := by
  intro pins s σ H Q I h
  exact isTrue_not (ha pins s σ H (fun c H1 => Q (!c) H1) I h)
noncomputable def tOrV (ta tb : TE) : TE := fun σ H Q => ta σ H fun x H1 => ∃ c, x = .bl c ∧ if c = true then Q (.bl true) H1 else tb σ H1 Q
theorem pe_one {op} {t : TE} (h : PE X a t) : PE X (.BoolOp op [a] pos) t := fun pins s σ H Q I hw => BoolOp_one (h pins s σ H Q I hw)
theorem pe_or (ha : PE X a ta) (hb : PE X (.BoolOp .Or (b :: rest) pos) tb) : PE X (.BoolOp .Or (a :: b :: rest) pos) (tOrV ta tb) := by
  intro pins s σ H Q I h
  refine BoolOp_or (thn (ha pins s σ H _ I h) fun v s1 hPat => ?_)
  obtain ⟨x, H1, I1, r1, q1⟩ := hPat
  obtain ⟨c, rfl, q1⟩ := q1
  cases r1
  refine wpAny_truthy_bool ?_
  cases c with
  | false => exact hb pins s1 σ H1 Q I1 q1
  | true => exact ⟨.bl true, H1, I1, rfl, q1⟩
/-- a if t else b -/
noncomputable def tIf (t : TT) (ta tb : TE) : TE := fun σ H Q => t σ H fun c H1 => if c = true then ta σ H1 Q else tb σ H1 Q
theorem pe_ifExp {c : Expr} (hc : PT X c tA) (ha : PE X a ta) (hb : PE X b tb) : PE X (.IfExp c a b pos) (tIf tA ta tb) := by
  intro pins s σ H Q I h
  refine wpAny_IfExp (thn (hc pins s σ H _ I h) fun d s1 hPat => ?_)
  obtain ⟨H1, I1, q1⟩ := hPat
  cases d with
  | true => exact ha pins s1 σ H1 Q I1 q1
  | false => exact hb pins s1 σ H1 Q I1 q1
end
end L2

namespace L2
open PySem PySem.Spec PyProof.Rows

/-! ### a list, a tuple that is read: tracked, frozen, or an object of the module -/
noncomputable def SqL (K : PySem.W.Frag) (H : Hp) (a : Addr) (xs : List V) : Prop :=
  Rd H a (.lst xs) ∨
    ∃ (o : Obj) (its : Array Value) (n : Nat), K.lookup a = some o ∧ o.cls = .type "list" ∧ o.dict = none ∧ o.data = .seq its n ∧ its.size ≤ sizeLine ∧ Vals xs its.toList
noncomputable def SqT (K : PySem.W.Frag) (H : Hp) (a : Addr) (xs : List V) : Prop :=
  Rd H a (.tup xs) ∨
    ∃ (o : Obj) (its : Array Value) (n : Nat), K.lookup a = some o ∧ o.cls = .type "tuple" ∧ o.data = .seq its n ∧ its.size ≤ sizeLine ∧ Vals xs its.toList
noncomputable def absV : Value → Option V
  | .none => some .non
  | .bool b => some (.bl b)
  | .int i _ => some (.int i)
  | .str x _ => some (.str x)
  | .bytes b _ => some (.byt b)
  | .float b _ => some (.flt b)
  | .ref a => some (.ref a)
  | .type n => some (.ty n)
  | _ => none
theorem RelV.abs {x : V} {u : Value} (r : RelV x u) : absV u = some x := by
  cases x with
  | non => cases r; rfl
  | bl _ => cases r; rfl
  | int _ => obtain ⟨t, rfl⟩ := r; rfl
  | str _ => obtain ⟨t, rfl⟩ := r; rfl
  | byt _ => obtain ⟨t, rfl⟩ := r; rfl
  | flt _ => obtain ⟨t, rfl⟩ := r; rfl
  | ref _ => cases r; rfl
  | ty _ => cases r; rfl
theorem RelV.inj {x y : V} {u : Value} (r : RelV x u) (q : RelV y u) : x = y := Option.some.inj (r.abs.symm.trans q.abs)
theorem Vals.inj : ∀ {xs ys : List V} {us : List Value}, Vals xs us → Vals ys us → xs = ys
  | _, _, _, .nil, .nil => rfl
  | _, _, _, .cons r t, .cons r' t' => by rw [r.inj r', Vals.inj t t']
section
variable {X : Cx} {pins : List (Addr × Obj)} {σ : St} {H : Hp} {s : Shared} {a : Addr} {xs ys : List V}
theorem SqL.of {K : PySem.W.Frag} (h : H a = some (.lst xs)) : SqL K H a xs := .inl (.inl h)
theorem SqT.of {K : PySem.W.Frag} (h : H a = some (.tup xs)) : SqT K H a xs := .inl (.inl h)
theorem Inv.list (I : Inv X pins σ H s) (h : SqL X.K H a xs) : ∃ its : List Value, Vals xs its ∧ PlainL s.heap a its.toArray ∧ xs.length ≤ sizeLine := by
  rcases h with h | ⟨o, its, n, hk, hc, hd, hs, hz, r⟩
  · obtain ⟨z, its, n, r, e⟩ := h.ok I.hok
    exact ⟨its, r, ⟨_, n, e, rfl, rfl, rfl⟩, z⟩
  · refine ⟨its.toList, r, ⟨o, n, I.kIn a o hk, hc, hd, by simpa using hs⟩, ?_⟩
    have e := r.length
    simp only [Array.length_toList] at e
    omega
theorem Inv.tuple (I : Inv X pins σ H s) (h : SqT X.K H a xs) : ∃ its : List Value, Vals xs its ∧ IsTup s.heap a its.toArray ∧ xs.length ≤ sizeLine := by
  rcases h with h | ⟨o, its, n, hk, hc, hs, hz, r⟩
  · obtain ⟨z, its, r, p⟩ := h.ok I.hok
    exact ⟨its, r, p, z⟩
  · refine ⟨its.toList, r, ⟨o, I.kIn a o hk, hc, n, by simpa using hs⟩, ?_⟩
    have e := r.length
    simp only [Array.length_toList] at e
    omega
theorem Inv.list_inj (I : Inv X pins σ H s) (h : SqL X.K H a xs) (h' : SqL X.K H a ys) : xs = ys := by
  obtain ⟨its, r, ⟨o, n, e, _, _, d⟩, _⟩ := I.list h
  obtain ⟨its', r', ⟨o', n', e', _, _, d'⟩, _⟩ := I.list h'
  rw [e] at e'; cases e'
  rw [d] at d'
  injection d' with d1 _
  have : its = its' := by simpa using congrArg Array.toList d1
  subst this
  exact r.inj r'
end

/-! ### another wish about exceptions -/
noncomputable abbrev Cx.wish (X : Cx) (E : Value → Shared → Prop) : Cx := { X with xe := E }
/-- no exception leaves -/
noncomputable abbrev Cx.nox (X : Cx) : Cx := X.wish fun _ _ => False
theorem Cx.Ok.wish {X : Cx} (ok : X.Ok) (E : Value → Shared → Prop) : (X.wish E).Ok :=
  ⟨ok.mod, ok.kind, ok.glob, ok.blt, ok.above, ok.inj, ok.has, ok.cab, ok.hd, ok.frames, ok.stk, ok.exf, ok.bs, ok.bsz, ok.noex, ok.exfs, ok.funs, ok.frf⟩
theorem Cx.Ok.unwish {X : Cx} {E : Value → Shared → Prop} (ok : (X.wish E).Ok) : X.Ok :=
  ⟨ok.mod, ok.kind, ok.glob, ok.blt, ok.above, ok.inj, ok.has, ok.cab, ok.hd, ok.frames, ok.stk, ok.exf, ok.bs, ok.bsz, ok.noex, ok.exfs, ok.funs, ok.frf⟩
section
variable {X : Cx} {pins : List (Addr × Obj)} {σ : St} {H : Hp} {s : Shared} {E : Value → Shared → Prop}
theorem Inv.wish (I : Inv X pins σ H s) (E : Value → Shared → Prop) : Inv (X.wish E) pins σ H s := ⟨I.ok.wish E, I.os, I.bare, I.base, I.loc, I.cell, I.free, I.freeC, I.pin, I.hok, I.len⟩
theorem Inv.unwish (I : Inv (X.wish E) pins σ H s) : Inv X pins σ H s := ⟨I.ok.unwish, I.os, I.bare, I.base, I.loc, I.cell, I.free, I.freeC, I.pin, I.hok, I.len⟩
theorem SP.unwish {D : Ends} {f : Flow} {s' : Shared} (h : SP (X.wish E) pins D f s') : SP X pins D f s' := by
  cases f with
  | next => obtain ⟨σ', H', I, q⟩ := h; exact ⟨σ', H', I.unwish, q⟩
  | brk => obtain ⟨σ', H', I, q⟩ := h; exact ⟨σ', H', I.unwish, q⟩
  | cont => obtain ⟨σ', H', I, q⟩ := h; exact ⟨σ', H', I.unwish, q⟩
  | ret u => obtain ⟨v, σ', H', I, r, q⟩ := h; exact ⟨v, σ', H', I.unwish, r, q⟩
theorem PSs.nox {st : List Stmt} {t : TS} (h : PSs X.nox st t) : PSs X st t := fun pins s σ H D I hw =>
  wpAny_mono (h pins s σ H D (I.wish _) hw) (fun _ _ q => q.unwish) fun _ _ z => False.elim z
end

/-! ### blocks and small statements -/
section
variable {X : Cx} {st : Stmt} {rest : List Stmt} {t u : TS} {e : Expr} {te : TE} {pos : Pos}
noncomputable def tNext : TS := fun D σ H => D.nx σ H
noncomputable def tSeq (t u : TS) : TS := fun D σ H => t { D with nx := u D } σ H
theorem pss_nil : PSs X [] tNext := fun _ _ σ H _ I h => wpAny_execs_nil ⟨σ, H, I, h⟩
theorem pss_cons (h1 : PS X st t) (h2 : PSs X rest u) : PSs X (st :: rest) (tSeq t u) := by
  intro pins s σ H D I h
  refine wpAny_execs_cons (thn (h1 pins s σ H { D with nx := u D } I h) fun f s1 q => ?_)
  cases f with
  | next =>
    obtain ⟨σ', H', I', q⟩ := q
    exact h2 pins s1 σ' H' D I' q
  | ret v => exact q
  | brk => exact q
  | cont => exact q
theorem pss_one (h1 : PS X st t) : PSs X [st] t := by
  intro pins s σ H D I h
  refine wpAny_execs_cons (thn (h1 pins s σ H D I h) fun f s1 q => ?_)
  cases f with
  | next => exact wpAny_execs_nil q
  | ret v => exact q
  | brk => exact q
  | cont => exact q
/-- in a def's body nothing is shown -/
theorem Inv.quiet {pins : List (Addr × Obj)} {σ : St} {H : Hp} {s : Shared} (I : Inv X pins σ H s) : interactive X.env = false := by simp [interactive, I.ok.kind]
/-- an expression whose value is dropped -/
noncomputable def tDrop (te : TE) : TS := fun D σ H => te σ H fun _ H1 => D.nx σ H1
theorem ps_expr (he : PE X e te) (hs : swapsWith e none pos.line X.env = pure false := by rfl) : PS X (.Expr e pos) (tDrop te) := by
  intro pins s σ H D I h
  refine wpAny_Expr_any (thn (he pins s σ H _ I h) fun v s1 hPat => ?_) I.quiet hs
  obtain ⟨x, H1, I1, r1, q1⟩ := hPat
  exact ⟨σ, H1, I1, q1⟩
noncomputable def tRet (te : TE) : TS := fun D σ H => te σ H D.rt
theorem ps_ret (he : PE X e te) : PS X (.Return (some e) pos) (tRet te) := by
  intro pins s σ H D I h
  refine wpAny_Return_some (thn (he pins s σ H _ I h) fun v s1 hPat => ?_)
  obtain ⟨x, H1, I1, r1, q1⟩ := hPat
  exact ⟨x, σ, H1, I1, r1, q1⟩
noncomputable def tIfS (c : TT) (t u : TS) : TS := fun D σ H => c σ H fun b H1 => if b = true then t D σ H1 else u D σ H1
theorem ps_if {c : Expr} {a b : List Stmt} {tc : TT} (hc : PT X c tc) (ha : PSs X a t) (hb : PSs X b u) : PS X (.If c a b pos) (tIfS tc t u) := by
  intro pins s σ H D I h
  refine wpAny_If (thn (hc pins s σ H _ I h) fun d s1 hPat => ?_)
  obtain ⟨H1, I1, q1⟩ := hPat
  cases d with
  | true => exact ha pins s1 σ H1 D I1 q1
  | false => exact hb pins s1 σ H1 D I1 q1
end

/-! ### targets -/
noncomputable abbrev TG := V → St → Hp → (St → Hp → Prop) → Prop
noncomputable def PG (X : Cx) (target : Expr) (t : TG) : Prop :=
  ∀ (pins : List (Addr × Obj)) (s : Shared) (σ : St) (H : Hp) (v : V) (u : Value) (Q : St → Hp → Prop), Inv X pins σ H s → RelV v u → t v σ H Q →
    wpAny (model X.prog X.w) X.A (assign target X.env u) (fun _ s' => ∃ σ' H', Inv X pins σ' H' s' ∧ Q σ' H') X.xe s
/-- o[i] = v, by values -/
noncomputable abbrev TSet := V → V → V → Hp → (Hp → Prop) → Prop
noncomputable def PSet (X : Cx) (t : TSet) : Prop :=
  ∀ (pins : List (Addr × Obj)) (s : Shared) (σ : St) (H : Hp) (o i v : V) (ov iv u : Value) (Q : Hp → Prop), Inv X pins σ H s → RelV o ov → RelV i iv → RelV v u → t o i v H Q →
    wpAny (model X.prog X.w) X.A (setItem ov iv u) (fun _ s' => ∃ H', Inv X pins σ H' s' ∧ Q H') X.xe s
/-- a op= b, by values -/
noncomputable abbrev TIp := V → V → Hp → VK → Prop
noncomputable def PIp (X : Cx) (op : Operator) (t : TIp) : Prop :=
  ∀ (pins : List (Addr × Obj)) (s : Shared) (σ : St) (H : Hp) (x y : V) (v u : Value) (Q : VK), Inv X pins σ H s → RelV x v → RelV y u → t x y H Q →
    wpAny (model X.prog X.w) X.A (inplaceOp op v u) (EP X pins σ Q) X.xe s
section
variable {X : Cx} {pos : Pos}
noncomputable def gName (i : Nat) : TG := fun v σ H Q => Q (σ.set i (some v)) H
theorem pg_name {i : Nat} {x : Str} (hN : X.N.Nodup) (hi : X.N[i]? = some x) (hx : Loc X.env.scope x) (hf : X.fn x = true ∨ X.env.scope.names.lookup x = some .local := by first | exact .inl rfl | exact .inr rfl | assumption) : PG X (.Name x pos) (gName i) := by
  intro pins s σ H v u Q I r h
  exact wpAny_assign_Name (store_ok I hN hi hx r (fun s' I' => ⟨_, H, I', h⟩) hf)
/-- o[i] = .. -/
noncomputable def gSub (to ti : TE) (t : TSet) : TG := fun v σ H Q => to σ H fun o H1 => ti σ H1 fun i H2 => t o i v H2 fun H3 => Q σ H3
theorem pg_sub {o i : Expr} {to ti : TE} {t : TSet} (ho : PE X o to) (hi : PE X i ti) (hs : PSet X t)
    (ha : ∀ v, assign (.Subscript o i pos) X.env v = (do
      let ov ← holding [v] (eval o X.env)
      let iv ← holding [v, ov] (eval i X.env)
      standAt pos
      holding [v, ov, iv] (setItem ov iv v)
      release [v, ov, iv] []) := by intro _; rfl) : PG X (.Subscript o i pos) (gSub to ti t) := by
  intro pins s σ H v u Q I r h
  rw [ha]
  refine wpAny_bind (wpAny_holding (thn (ho pins s σ H _ I h) fun ov s1 hPat => ?_))
  obtain ⟨x, H1, I1, r1, q1⟩ := hPat
  refine wpAny_bind (wpAny_holding (thn (hi pins s1 σ H1 _ I1 q1) fun iv s2 hPat => ?_))
  obtain ⟨y, H2, I2, r2, q2⟩ := hPat
  refine wpAny_bind (wpAny_standAt (wpAny_bind (wpAny_holding (thn (hs pins s2 σ H2 x y v ov iv u _ I2 r1 r2 r q2) fun _ s3 hPat => ?_))))
  obtain ⟨H3, I3, q3⟩ := hPat
  exact wpAny_release ⟨σ, H3, I3, q3⟩
/-- target = value -/
noncomputable def tAsg (te : TE) (g : TG) : TS := fun D σ H => te σ H fun x H1 => g x σ H1 D.nx
theorem ps_asg {tg e : Expr} {te : TE} {g : TG} (he : PE X e te) (hg : PG X tg g) (hs : swapsWithSole [tg] e pos.line X.env = pure false := by rfl) (hw : swappedStores [tg] e X.env = pure none := by rfl)
    (h1 : (assignEach [tg] X.env).map (·.2) = [assign tg X.env] := by rfl) : PS X (.Assign [tg] e pos) (tAsg te g) := by
  intro pins s σ H D I h
  refine wpAny_Assign_stores (thn (he pins s σ H _ I h) fun v s1 hPat => ?_) hs hw
  obtain ⟨x, H1, I1, r1, q1⟩ := hPat
  rw [h1]
  exact thn (hg pins s1 σ H1 x v _ I1 r1 q1) fun _ s2 q => q
/-- name = value -/
theorem ps_set {i : Nat} {x : Str} {e : Expr} {te : TE} {pos' : Pos} (hN : X.N.Nodup) (hi : X.N[i]? = some x) (hx : Loc X.env.scope x) (he : PE X e te) (hs : swapsWith e (some (.Name x pos')) pos.line X.env = pure false := by rfl) (hf : X.fn x = true ∨ X.env.scope.names.lookup x = some .local := by first | exact .inl rfl | exact .inr rfl | assumption) :
    PS X (.Assign [.Name x pos'] e pos) (tAsg te (gName i)) := by
  intro pins s σ H D I h
  refine wpAny_Assign_Name (thn (he pins s σ H _ I h) fun v s1 hPat => ?_) hs
  obtain ⟨y, H1, I1, r1, q1⟩ := hPat
  exact store_ok I1 hN hi hx r1 (fun s2 I2 => ⟨_, H1, I2, q1⟩) hf
/-- name op= e -/
noncomputable def tAug (i : Nat) (te : TE) (ti : TIp) : TS := fun D σ H => ∃ x, σ[i]? = some (some x) ∧ te σ H fun y H1 => ti x y H1 fun z H2 => D.nx (σ.set i (some z)) H2
theorem ps_aug {i : Nat} {x : Str} {e : Expr} {te : TE} {op : Operator} {ti : TIp} {pos' : Pos} (hN : X.N.Nodup) (hi : X.N[i]? = some x) (hx : Loc X.env.scope x) (he : PE X e te) (ho : PIp X op ti) (hf : X.fn x = true ∨ X.env.scope.names.lookup x = some .local := by first | exact .inl rfl | exact .inr rfl | assumption) :
    PS X (.AugAssign (.Name x pos') op e pos) (tAug i te ti) := by
  intro pins s σ H D I h
  obtain ⟨v, e1, h⟩ := h
  obtain ⟨m, hn, hl⟩ := I.loc
  have vis : Vis X.env.scope x := by rcases hx with k | k; exact .inl k; exact .inr (.inl k)
  obtain ⟨u, r, l⟩ := hl i x v hi e1 vis
  refine wpAny_AugAssign_Name ?_
  have go : wpAny (model X.prog X.w) X.A (eval e X.env) (fun w s₂ => wpAny (model X.prog X.w) X.A (inplaceOp op u w) (fun r s₃ => wpAny (model X.prog X.w) X.A (storeName X.env x r) (fun _ => SP X pins D .next) X.xe s₃) X.xe s₂) X.xe s := by
    refine thn (he pins s σ H _ I h) fun w s1 hPat => ?_
    obtain ⟨y, H1, I1, r1, q1⟩ := hPat
    refine thn (ho pins s1 σ H1 v y u w _ I1 r r1 q1) fun z s2 hPat => ?_
    obtain ⟨zv, H2, I2, r2, q2⟩ := hPat
    exact store_ok I2 hN hi hx r2 (fun s3 I3 => ⟨_, H2, I3, q2⟩) hf
  rcases l with ⟨hk, hm⟩ | ⟨hk, c, hc, hcell⟩
  · exact wpAny_loadName_local I.ok.kind hk hn hm go
  · rcases hk with hk | hk
    · exact wpAny_loadName_cell I.ok.kind hk hc hcell go
    · rcases hx with k | k
      · have : X.env.scope.names.lookup x = some .free := hk
        rw [k] at this; cases this
      · have : X.env.scope.names.lookup x = some .free := hk
        rw [k] at this; cases this
/-- ints -/
noncomputable def ipI (f : Int → Int → Int) : TIp := fun x y H Q => ∃ i j, x = .int i ∧ y = .int j ∧ Q (.int (f i j)) H
theorem ip_add : PIp X .Add (ipI fun i j => i + j) := by
  intro pins s σ H x y v u Q I r1 r2 h
  obtain ⟨i, j, e1, e2, q⟩ := h
  subst e1; subst e2
  obtain ⟨t, rfl⟩ := r1
  obtain ⟨t', rfl⟩ := r2
  exact iadd_int ⟨.int _, H, I.tok _, ⟨_, rfl⟩, q⟩
end

/-! ### while -/
section
variable {X : Cx} {pos : Pos}
/-- the invariant W with its measure -/
noncomputable def tWhile (c : TT) (tb : TS) : TS := fun D σ H => ∃ W : Nat → St → Hp → Prop, (∃ m, W m σ H) ∧ ∀ m σ H, W m σ H →
  c σ H fun b H1 => if b = true then ∃ N : St → Hp → Prop, (∀ σ' H', N σ' H' → ∃ m', m' < m ∧ W m' σ' H') ∧ tb { D with nx := N, ct := N, bk := D.nx } σ H1 else D.nx σ H1
theorem ps_while {c : Expr} {body : List Stmt} {tc : TT} {tb : TS} (hp : PassesOwn (model X.prog X.w) X.A X.env X.xe) (hc : PT X c tc) (hb : PSs X body tb) : PS X (.While c body [] pos) (tWhile tc tb) := by
  intro pins s σ H D I h
  obtain ⟨W, ⟨m0, w0⟩, turn⟩ := h
  refine wpAny_While (codeAny_whileLoop (fun n s' => ∃ σ' H', Inv X pins σ' H' s' ∧ W n σ' H') ?_ m0 ⟨σ, H, I, w0⟩)
  rintro n s1 ⟨σ1, H1, I1, w1⟩
  refine wpAny_passesOwn hp (thn (hc pins s1 σ1 H1 _ I1 (turn n σ1 H1 w1)) fun b s2 hPat => ?_)
  obtain ⟨H2, I2, q2⟩ := hPat
  cases b with
  | true =>
    obtain ⟨N, hN, q2⟩ := q2
    rw [if_pos rfl]
    refine wpAny_passesOwn hp (thn (hb pins s2 σ1 H2 _ I2 q2) fun f s3 q3 => ?_)
    cases f with
    | next =>
      obtain ⟨σ3, H3, I3, n3⟩ := q3
      obtain ⟨m', hm, w3⟩ := hN σ3 H3 n3
      exact ⟨m', hm, σ3, H3, I3, w3⟩
    | cont =>
      obtain ⟨σ3, H3, I3, n3⟩ := q3
      obtain ⟨m', hm, w3⟩ := hN σ3 H3 n3
      exact ⟨m', hm, σ3, H3, I3, w3⟩
    | brk => exact q3
    | ret v => exact q3
  | false =>
    rw [if_neg Bool.false_ne_true]
    exact wpAny_execs_nil ⟨σ1, H2, I2, q2⟩
end

/-! ### what a loop or a comprehension walks -/
/-- at turn i: it yields x (the heap may grow), or it stops -/
structure It where
  go : Nat → Hp → Prop
  yld : Nat → Hp → V → Hp → Prop
  stop : Nat → Hp → Prop
/-- the iterator's own objects may turn: they are not the frame's, not pinned, younger than the entry (or a comprehension's own) -/
noncomputable def FpOk (X : Cx) (pins : List (Addr × Obj)) (H : Hp) (b : Addr) : Prop :=
  H b = none ∧ b ≠ X.env.locals ∧ b ∉ X.fs ∧ (b ∈ X.ex ∨ X.s_0.heap.objs.size ≤ b) ∧ (∀ x c, X.env.cells.lookup x = some c → c ≠ b) ∧ ∀ p ∈ X.pn ++ pins, p.1 ≠ b
theorem Inv.fpOk {X : Cx} {pins : List (Addr × Obj)} {σ : St} {H H' : Hp} {s : Shared} {b : Addr} (I : Inv X pins σ H s) (hb : s.heap.objs.size ≤ b) (hn : H' b = none) : FpOk X pins H' b := by
  refine ⟨hn, Nat.ne_of_gt (Nat.lt_of_lt_of_le I.lt hb), I.nofs hb, .inr (Nat.le_trans I.sz hb), fun x c e z => ?_, fun p hp z => ?_⟩
  · obtain ⟨v, q⟩ := I.cell x c e
    exact absurd (Nat.lt_of_lt_of_le q.lt (by rw [z]; exact hb)) (Nat.lt_irrefl _)
  · exact absurd (Nat.lt_of_lt_of_le (Heap.lt_size (I.pin p hp).1) (by rw [z]; exact hb)) (Nat.lt_irrefl _)
structure Turn (P : Program) (w : World) (K : PySem.W.Frag) (tg : Expr) (J : It) (fp : List Addr) (it : Addr) (tn : Nat → Heap → Prop) : Prop where
  mem : it ∈ fp
  obj : ∀ i h, tn i h → ∀ b ∈ fp, ∃ o, h.get? b = some o ∧ ∀ v, o.data ≠ .cell v
  keep : ∀ i h h', tn i h → (∀ b ∈ fp, ∀ o, h.get? b = some o → h'.get? b = some o) → tn i h'
  item : ∀ (X : Cx), X.prog = P → X.w = w → X.K = K → X.calm = true → ∀ (i : Nat) (pins : List (Addr × Obj)) (s : Shared) (σ : St) (H : Hp) (E : Value → Shared → Prop), Inv X pins σ H s → (∀ b ∈ fp, FpOk X pins H b) → tn i s.heap → J.go i H →
    wpAny (model P w) X.A (pyNext (.ref it)) (fun r s1 => ∃ u, r = some u ∧
      wpAny (model P w) X.A (letOwnedTupleGo tg (.ref it) u) (fun _ s2 => ∃ x H', Inv X pins σ H' s2 ∧ RelV x u ∧ J.yld i H x H' ∧ tn (i + 1) s2.heap ∧ ∀ b ∈ fp, H' b = none) E s1) E s
  done : ∀ (X : Cx), X.prog = P → X.w = w → X.K = K → X.calm = true → ∀ (i : Nat) (pins : List (Addr × Obj)) (s : Shared) (σ : St) (H : Hp) (E : Value → Shared → Prop), Inv X pins σ H s → (∀ b ∈ fp, FpOk X pins H b) → tn i s.heap → J.stop i H →
    wpAny (model P w) X.A (pyNext (.ref it)) (fun r s1 => r = none ∧ Inv X pins σ H s1) E s
  self : ∀ (A : Around) (i : Nat) (s : Shared) (Q : Value → Shared → Prop) (E : Value → Shared → Prop), tn i s.heap → Q (.ref it) s → wpAny (model P w) A (pyIter (.ref it)) Q E s
noncomputable abbrev TI := St → Hp → (It → Hp → Prop) → Prop
/-- an iterator has come -/
noncomputable def PIE (X : Cx) (pins : List (Addr × Obj)) (σ : St) (tg : Expr) (R : It → Hp → Prop) (itv : Value) (s2 : Shared) : Prop :=
  ∃ (it : Addr) (fp : List Addr) (tn : Nat → Heap → Prop) (J : It) (H' : Hp), itv = .ref it ∧ Inv X pins σ H' s2 ∧ Turn X.prog X.w X.K tg J fp it tn ∧ tn 0 s2.heap ∧ (∀ b ∈ fp, FpOk X pins H' b) ∧ R J H'
noncomputable def PI (X : Cx) (tg iter : Expr) (wi : TI) : Prop :=
  ∀ (pins : List (Addr × Obj)) (s : Shared) (σ : St) (H : Hp) (R : It → Hp → Prop), Inv X pins σ H s → wi σ H R →
    wpAny (model X.prog X.w) X.A (eval iter X.env) (fun v s1 => wpAny (model X.prog X.w) X.A (pyIter v) (PIE X pins σ tg R) X.xe s1) X.xe s

/-- the step ahead of the store is nothing for an iterator that keeps no tuple -/
theorem go_of {M : Model} {A : Around} {E : Value → Shared → Prop} {s : Shared} {tg : Expr} {it : Addr} {u : Value} {o : Obj} {n : String} {vs : Array Value} {Q : Unit → Shared → Prop} (ho : s.heap.get? it = some o) (hc : o.cls = .type n) (hd : o.data = .fields vs)
    (hn : ["enumerate", "zip", "dict_itemiterator", "dict_reverseitemiterator", "odict_iterator", "itertools.zip_longest", "itertools.pairwise"].contains n = false) (hQ : Q () s) : wpAny M A (letOwnedTupleGo tg (.ref it) u) Q E s := by
  unfold letOwnedTupleGo
  cases tg <;> first
    | exact wpAny_pure hQ
    | (cases u <;> first
        | exact wpAny_pure hQ
        | (refine wpAny_bind (wpAny_load ho ?_)
           rw [hc, hd]
           show wpAny M A (if (["enumerate", "zip", "dict_itemiterator", "dict_reverseitemiterator", "odict_iterator", "itertools.zip_longest", "itertools.pairwise"].contains n && vs[0]? == some (rawInt _)) = true then _ else _) Q E s
           rw [if_neg (by intro h; rw [hn, Bool.false_and] at h; cases h)]
           exact wpAny_pure hQ))

/-- the list at a, as it stands at each turn (a loop may append to it) -/
noncomputable def Itl (K : PySem.W.Frag) (a : Addr) : It :=
  ⟨fun i H => ∃ xs x, SqL K H a xs ∧ xs[i]? = some x, fun i H x H' => H' = H ∧ ∀ xs, SqL K H a xs → xs[i]? = some x, fun i H => ∃ xs, SqL K H a xs ∧ xs.length ≤ i⟩
/-- lo, lo + 1, .. (n of them) -/
noncomputable def Itr (lo : Int) (n : Nat) : It := ⟨fun i _ => i < n, fun i H x H' => H' = H ∧ x = .int (lo + i), fun i _ => n ≤ i⟩
theorem turn_list {P : Program} {w : World} {K : PySem.W.Frag} {tg : Expr} (a it : Addr) : Turn P w K tg (Itl K a) [it] it (fun i h => h.IsListIter it a i) where
  mem := by simp
  obj := fun i h st b hb => by
    have e : b = it := by simpa using hb
    subst e
    obtain ⟨o, e, c, d⟩ := st
    exact ⟨o, e, fun v z => by rw [d] at z; cases z⟩
  keep := fun i h h' st k => st.at fun o e => k it (by simp) o e
  item := by
    intro X hP hw hK hc i pins s σ H E I hf st hg
    subst hP hw hK
    obtain ⟨xs, x, hq, hx⟩ := hg
    obtain ⟨its, rv, p, hz⟩ := I.list hq
    obtain ⟨u, hu, ru⟩ := rv.get hx
    obtain ⟨f0, f1, f2, f3, f4, f5⟩ := hf it (by simp)
    refine wpAny_pyNext_list_item st p.isList (x := u) (by simpa using hu) fun h' st' sb => ?_
    have I1 : Inv X pins σ H { s with heap := h' } := I.turned (t' := s.toks) (fun b o hb e => (sb.2 b hb).trans e) f0 f1 f3 f4 f5
    obtain ⟨o, e, c, d⟩ := id st'
    exact ⟨u, rfl, go_of (s := { s with heap := h' }) e c d (by decide) ⟨x, H, I1, ru, ⟨rfl, fun ys hy => by rw [I.list_inj hy hq]; exact hx⟩, st', fun b hb => (hf b hb).1⟩⟩
  done := by
    intro X hP hw hK hc i pins s σ H E I hf st hg
    subst hP hw hK
    obtain ⟨xs, hq, hx⟩ := hg
    obtain ⟨its, rv, p, hz⟩ := I.list hq
    obtain ⟨f0, f1, f2, f3, f4, f5⟩ := hf it (by simp)
    have hl := rv.length
    exact wpAny_pyNext_list_end (I.ok.hd hc) st p.isList (by simp; omega) fun h' eb => ⟨rfl, I.turned (t' := s.toks) (fun b o hb e => eb b o hb e) f0 f1 f3 f4 f5⟩
  self := fun _ _ _ _ _ st h => wpAny_pyIter_listiter st h
theorem turn_range {P : Program} {w : World} {K : PySem.W.Frag} {tg : Expr} (it : Addr) (lo : Int) (n : Nat) : Turn P w K tg (Itr lo n) [it] it (fun i h => IsRangeIter h it (lo + (i : Nat) * 1) ((n : Int) - (i : Nat)) 1) where
  mem := by simp
  obj := fun i h st b hb => by
    have e : b = it := by simpa using hb
    subst e
    exact ⟨_, st, fun v z => by
      have z' : Data.fields _ = Data.cell v := z
      cases z'⟩
  keep := fun i h h' st k => k it (by simp) _ st
  item := by
    intro X hP hw hK hc i pins s σ H E I hf st hg
    subst hP hw hK
    obtain ⟨f0, f1, f2, f3, f4, f5⟩ := hf it (by simp)
    have W := Walks.range (prog := X.prog) (w := X.w) (I.ok.hd hc) it lo 1 n
    refine W.item i s _ _ hg st fun v h' tk hv st' kk => ?_
    obtain ⟨t, rfl⟩ := hv
    have I1 : Inv X pins σ H { s with heap := h', toks := tk } := I.turned (fun b o hb e => kk b o (by simpa using hb) e) f0 f1 f3 f4 f5
    refine ⟨_, rfl, go_of (s := { s with heap := h', toks := tk }) (n := "range_iterator") st' rfl rfl (by decide) ⟨.int (lo + i), H, I1, ⟨t, ?_⟩, ⟨rfl, rfl⟩, st', fun b hb => (hf b hb).1⟩⟩
    rw [Int.mul_one]
  done := by
    intro X hP hw hK hc i pins s σ H E I hf st hg
    subst hP hw hK
    obtain ⟨f0, f1, f2, f3, f4, f5⟩ := hf it (by simp)
    exact wpAny_pyNext_range_end (I.ok.hd hc) st (by have : n ≤ i := hg; omega) fun h' eb => ⟨rfl, I.turned (t' := s.toks) (fun b o hb e => eb b o hb e) f0 f1 f3 f4 f5⟩
  self := fun _ _ _ _ _ st h => wpAny_pyIter_rangeiter st h
end L2

namespace L2
open PySem PySem.Spec PyProof.Rows
section
variable {X : Cx} {tg : Expr}
noncomputable def iList (K : PySem.W.Frag) (tl : TE) : TI := fun σ H R => tl σ H fun x H1 => ∃ a, x = .ref a ∧ (∃ xs, SqL K H1 a xs) ∧ R (Itl K a) H1
theorem pi_list {l : Expr} {tl : TE} (hl : PE X l tl) : PI X tg l (iList X.K tl) := by
  intro pins s σ H R I h
  refine thn (hl pins s σ H _ I h) fun v s1 hPat => ?_
  obtain ⟨x, H1, I1, r1, q1⟩ := hPat
  obtain ⟨a, e, ⟨xs, hq⟩, q⟩ := q1
  subst e
  cases r1
  obtain ⟨its, rv, p, hz⟩ := I1.list hq
  refine wpAny_pyIter_list p.isList ?_
  refine ⟨s1.heap.objs.size, [s1.heap.objs.size], _, _, H1, rfl, I1.kept (t' := s1.toks) fun b o e => Heap.get?_push_of_some _ e, turn_list a _, ⟨_, Heap.get?_push_size _ rfl, rfl, rfl⟩, fun b hb => ?_, q⟩
  have e : b = s1.heap.objs.size := by simpa using hb
  subst e
  exact I1.fpOk (Nat.le_refl _) (I1.hok.fresh (Nat.le_refl _))
/-- a range object just made, walked -/
theorem range_it {pins : List (Addr × Obj)} {σ : St} {H : Hp} {s : Shared} {R : It → Hp → Prop} {E : Value → Shared → Prop} {lo hi : Int} {t u v : Tok} {tk : Nat} (I : Inv X pins σ H s) (h1 : -(2 ^ 62) ≤ lo) (h2 : lo < 2 ^ 62) (h3 : -(2 ^ 62) ≤ hi) (h4 : hi < 2 ^ 62)
    (q : R (Itr lo (hi - lo).toNat) H) : wpAny (model X.prog X.w) X.A (pyIter (.ref s.heap.objs.size)) (PIE X pins σ tg R) E { s with heap := s.heap.push { cls := .type "range", data := .fields #[.int lo t, .int hi u, .int 1 v] }, toks := tk } := by
  refine wpAny_pyIter_range (IsRange.new ..) (small_one h1 h2 h3 h4) ?_
  have I1 : Inv X pins σ H { s with heap := s.heap.push { cls := .type "range", data := .fields #[.int lo t, .int hi u, .int 1 v] }, toks := tk } := I.kept fun b o e => Heap.get?_push_of_some _ e
  refine ⟨(s.heap.push { cls := .type "range", data := .fields #[.int lo t, .int hi u, .int 1 v] }).objs.size, [(s.heap.push { cls := .type "range", data := .fields #[.int lo t, .int hi u, .int 1 v] }).objs.size], _, _, H, rfl,
    I1.kept (t' := tk) fun b o e => Heap.get?_push_of_some _ e, turn_range _ lo (hi - lo).toNat, ?_, fun b hb => ?_, q⟩
  · have e1 : lo + ((0 : Nat) : Int) * 1 = lo := by simp
    have e2 : (((hi - lo).toNat : Nat) : Int) - ((0 : Nat) : Int) = Builtin.Range.rangeSize lo hi 1 := by rw [rangeSize_one]; split <;> omega
    show IsRangeIter _ _ (lo + ((0 : Nat) : Int) * 1) ((((hi - lo).toNat : Nat) : Int) - ((0 : Nat) : Int)) 1
    rw [e1, e2]
    exact Heap.get?_push_size _ rfl
  · have e : b = (s.heap.push { cls := .type "range", data := .fields #[.int lo t, .int hi u, .int 1 v] }).objs.size := by simpa using hb
    subst e
    exact I1.fpOk (Nat.le_refl _) (I1.hok.fresh (Nat.le_refl _))
noncomputable def iRng1 (ta : TA) : TI := fun σ H R => ta σ H fun vs H1 => ∃ j : Int, vs = [.int j] ∧ -(2 ^ 62) ≤ j ∧ j < 2 ^ 62 ∧ R (Itr 0 j.toNat) H1
theorem pi_range1 {a : Expr} {ta : TA} {p pos : Pos} (hg : Gl X "range") (hm : X.mg "range" = none) (ha : PA X [a] ta) (hs : starEach [a] X.env = [(false, eval a X.env)] := by rfl) : PI X tg (.Call (.Name "range" p) [a] [] pos) (iRng1 ta) := by
  intro pins s σ H R I h
  refine Call_ (ld_blt I hg hm boot_range (PyProof.Rows.callWith_type1 (thn (ha pos pins s σ H _ I h) fun us s1 hPat => ?_) hs rfl))
  obtain ⟨vs, H1, I1, r1, q1⟩ := hPat
  obtain ⟨j, e, q1, q2, q⟩ := q1
  subst e
  cases r1 with
  | cons r rr =>
    cases rr
    obtain ⟨t, rfl⟩ := r
    exact call_range_1 (range_it I1 (by omega) (by omega) q1 q2 (by simpa using q))

/-! ### for -/
/-- W: the invariant by the turn and a measure; N: what the body is to reach -/
noncomputable def tFor (wi : TI) (g : TG) (tb : TS) : TS := fun D σ H => wi σ H fun J H1 => ∃ W : Nat → Nat → St → Hp → Prop, (∃ m, W 0 m σ H1) ∧ ∀ i m σ H, W i m σ H →
  (J.stop i H ∧ D.nx σ H) ∨ (J.go i H ∧ ∃ N : St → Hp → Prop, (∀ σ' H', N σ' H' → ∃ m', m' < m ∧ W (i + 1) m' σ' H') ∧ ∀ x H', J.yld i H x H' → g x σ H' fun σ2 H2 => tb { D with nx := N, ct := N, bk := D.nx } σ2 H2)
/-- the records at fp as they stand -/
noncomputable def pinsAt (fp : List Addr) (h : Heap) : List (Addr × Obj) := fp.filterMap fun b => (h.get? b).map fun o => (b, o)
theorem mem_pinsAt {fp : List Addr} {h : Heap} {b : Addr} {o : Obj} (hb : b ∈ fp) (e : h.get? b = some o) : (b, o) ∈ pinsAt fp h := List.mem_filterMap.mpr ⟨b, hb, by rw [e]; rfl⟩
theorem of_pinsAt {fp : List Addr} {h : Heap} {p : Addr × Obj} (hp : p ∈ pinsAt fp h) : p.1 ∈ fp ∧ h.get? p.1 = some p.2 := by
  obtain ⟨b, hb, e⟩ := List.mem_filterMap.mp hp
  cases q : h.get? b with
  | none => rw [q] at e; cases e
  | some o =>
    rw [q] at e
    have e' : (b, o) = p := Option.some.inj e
    subst e'
    exact ⟨hb, q⟩
theorem Inv.pinned {pins : List (Addr × Obj)} {σ : St} {H : Hp} {s : Shared} {fp : List Addr} (I : Inv X pins σ H s) (hf : ∀ b ∈ fp, FpOk X pins H b) (ho : ∀ b ∈ fp, ∃ o, s.heap.get? b = some o ∧ ∀ v, o.data ≠ .cell v) : Inv X (pins ++ pinsAt fp s.heap) σ H s :=
  I.pins_of fun p hp => (List.mem_append.mp hp).elim (fun z => I.pin p (List.mem_append_right _ z)) fun z => by
    obtain ⟨hb, e⟩ := of_pinsAt z
    obtain ⟨f0, f1, f2, _⟩ := hf p.1 hb
    obtain ⟨o, e', d⟩ := ho p.1 hb
    rw [e] at e'; cases e'
    exact ⟨e, f0, f1, f2, d⟩
theorem Inv.unpinned {pins pl : List (Addr × Obj)} {σ : St} {H : Hp} {s : Shared} (I : Inv X (pins ++ pl) σ H s) : Inv X pins σ H s := I.pins_of fun p hp => I.pin p (List.mem_append_right _ (List.mem_append_left _ hp))
theorem ps_for {iter : Expr} {body : List Stmt} {wi : TI} {g : TG} {tb : TS} {pos : Pos} (hp : PassesOwn (model X.prog X.w) X.A X.env X.xe) (hc : X.calm = true) (hi : PI X tg iter wi) (hg : PG X tg g) (hb : PSs X body tb)
    (hs : ∀ x, foldedSetIterable iter X.env x = pure x := by intro _; rfl) : PS X (.For tg iter body [] pos) (tFor wi g tb) := by
  intro pins s σ H D I h
  refine wpAny_For (thn (hi pins s σ H _ I h) fun v s1 h1 => thn h1 fun itv s2 h2 => ?_) hs
  obtain ⟨it, fp, tn, J, H2, e, I2, T, st2, f2, W, ⟨m0, w0⟩, turn⟩ := h2
  subst e
  -- what stays true of the iterator's objects through the loop
  have stat : ∀ {H' : Hp}, (∀ b ∈ fp, H' b = none) → ∀ b ∈ fp, FpOk X pins H' b := fun hn b hb => ⟨hn b hb, (f2 b hb).2⟩
  refine codeAny_forLoop_any (fun n s' => ∃ i σ' H', Inv X pins σ' H' s' ∧ tn i s'.heap ∧ (∀ b ∈ fp, H' b = none) ∧ W i n σ' H') ?_ m0 ⟨0, σ, H2, I2, st2, fun b hb => (f2 b hb).1, w0⟩
  rintro n s3 ⟨i, σ3, H3, I3, st3, fr3, w3⟩
  rcases turn i n σ3 H3 w3 with ⟨stop, qn⟩ | ⟨go, N, hN, step⟩
  · refine wpAny_passesOwn hp (thn (T.done X rfl rfl rfl hc i pins s3 σ3 H3 X.xe I3 (stat fr3) st3 stop) fun r s4 ⟨hr, I4⟩ => ?_)
    subst hr
    exact wpAny_execs_nil ⟨σ3, H3, I4, qn⟩
  · refine wpAny_passesOwn hp (thn (T.item X rfl rfl rfl hc i pins s3 σ3 H3 X.xe I3 (stat fr3) st3 go) fun r s4 ⟨u, hr, h4⟩ => ?_)
    subst hr
    refine wpAny_passesOwn hp (thn h4 fun _ s5 hPat => ?_)
    obtain ⟨x, H5, I5, r5, y5, st5, fr5⟩ := hPat
    have I5' := I5.pinned (stat fr5) (T.obj _ _ st5)
    refine wpAny_passesOwn hp (thn (hg _ s5 σ3 H5 x u _ I5' r5 (step x H5 y5)) fun _ s6 hPat => ?_)
    obtain ⟨σ6, H6, I6, q6⟩ := hPat
    refine wpAny_passesOwn hp (thn (hb _ s6 σ6 H6 _ I6 q6) fun f s7 q7 => ?_)
    have again : ∀ {σ7 : St} {H7 : Hp}, Inv X (pins ++ pinsAt fp s5.heap) σ7 H7 s7 → N σ7 H7 → ∃ m, m < n ∧ ∃ i σ' H', Inv X pins σ' H' s7 ∧ tn i s7.heap ∧ (∀ b ∈ fp, H' b = none) ∧ W i m σ' H' := fun {σ7 H7} I7 n7 => by
      obtain ⟨m', hm, w7⟩ := hN σ7 H7 n7
      refine ⟨m', hm, i + 1, σ7, H7, I7.unpinned, T.keep _ _ _ st5 fun b hb o e => (I7.pin (b, o) (List.mem_append_right _ (List.mem_append_right _ (mem_pinsAt hb e)))).1, fun b hb => ?_, w7⟩
      obtain ⟨o, e, d⟩ := T.obj _ _ st5 b hb
      exact (I7.pin (b, o) (List.mem_append_right _ (List.mem_append_right _ (mem_pinsAt hb e)))).2.1
    cases f with
    | next => obtain ⟨σ7, H7, I7, n7⟩ := q7; exact again I7 n7
    | cont => obtain ⟨σ7, H7, I7, n7⟩ := q7; exact again I7 n7
    | brk => obtain ⟨σ7, H7, I7, q7⟩ := q7; exact ⟨σ7, H7, I7.unpinned, q7⟩
    | ret v => obtain ⟨x7, σ7, H7, I7, r7, q7⟩ := q7; exact ⟨x7, σ7, H7, I7.unpinned, r7, q7⟩
end

/-! ### the forms one uses -/
/-- over a list that the body leaves as it is -/
theorem for_list {K : PySem.W.Frag} {a : Addr} {xs : List V} {g : TG} {tb : TS} {D : Ends} {σ : St} {H : Hp} (Pv : Nat → St → Hp → Prop) (h0 : Pv 0 σ H) (hl : ∀ i σ H, i ≤ xs.length → Pv i σ H → SqL K H a xs)
    (hs : ∀ i x σ H, xs[i]? = some x → Pv i σ H → g x σ H fun σ2 H2 => tb { D with nx := Pv (i + 1), ct := Pv (i + 1), bk := D.nx } σ2 H2) (hd : ∀ σ H, Pv xs.length σ H → D.nx σ H) :
    ∃ W : Nat → Nat → St → Hp → Prop, (∃ m, W 0 m σ H) ∧ ∀ i m σ H, W i m σ H →
      ((Itl K a).stop i H ∧ D.nx σ H) ∨ ((Itl K a).go i H ∧ ∃ N : St → Hp → Prop, (∀ σ' H', N σ' H' → ∃ m', m' < m ∧ W (i + 1) m' σ' H') ∧ ∀ x H', (Itl K a).yld i H x H' → g x σ H' fun σ2 H2 => tb { D with nx := N, ct := N, bk := D.nx } σ2 H2) := by
  refine ⟨fun i m σ H => m = xs.length - i ∧ i ≤ xs.length ∧ Pv i σ H, ⟨xs.length, by simp, Nat.zero_le _, h0⟩, ?_⟩
  rintro i m σ H ⟨rfl, hi, p⟩
  have q := hl i σ H hi p
  by_cases hlt : i < xs.length
  · refine .inr ⟨⟨xs, xs[i], q, by simp [hlt]⟩, Pv (i + 1), fun σ' H' p' => ⟨xs.length - (i + 1), by omega, rfl, hlt, p'⟩, fun x H' y => ?_⟩
    obtain ⟨e, y⟩ := y
    subst e
    exact hs i x σ _ (y xs q) p
  · have e : i = xs.length := by omega
    subst e
    exact .inl ⟨⟨xs, q, Nat.le_refl _⟩, hd σ H p⟩
theorem for_range {lo : Int} {n : Nat} {g : TG} {tb : TS} {D : Ends} {σ : St} {H : Hp} (Pv : Nat → St → Hp → Prop) (h0 : Pv 0 σ H)
    (hs : ∀ i σ H, i < n → Pv i σ H → g (.int (lo + i)) σ H fun σ2 H2 => tb { D with nx := Pv (i + 1), ct := Pv (i + 1), bk := D.nx } σ2 H2) (hd : ∀ σ H, Pv n σ H → D.nx σ H) :
    ∃ W : Nat → Nat → St → Hp → Prop, (∃ m, W 0 m σ H) ∧ ∀ i m σ H, W i m σ H →
      ((Itr lo n).stop i H ∧ D.nx σ H) ∨ ((Itr lo n).go i H ∧ ∃ N : St → Hp → Prop, (∀ σ' H', N σ' H' → ∃ m', m' < m ∧ W (i + 1) m' σ' H') ∧ ∀ x H', (Itr lo n).yld i H x H' → g x σ H' fun σ2 H2 => tb { D with nx := N, ct := N, bk := D.nx } σ2 H2) := by
  refine ⟨fun i m σ H => m = n - i ∧ i ≤ n ∧ Pv i σ H, ⟨n, by simp, Nat.zero_le _, h0⟩, ?_⟩
  rintro i m σ H ⟨rfl, hi, p⟩
  by_cases hlt : i < n
  · refine .inr ⟨hlt, Pv (i + 1), fun σ' H' p' => ⟨n - (i + 1), by omega, rfl, hlt, p'⟩, fun x H' y => ?_⟩
    obtain ⟨e, y⟩ := y
    subst e y
    exact hs i σ _ hlt p
  · have e : i = n := by omega
    subst e
    exact .inl ⟨Nat.le_refl _, hd σ H p⟩
/-- while, by a word and a measure of the state -/
theorem while_by {c : TT} {tb : TS} {D : Ends} {σ : St} {H : Hp} (Pv : St → Hp → Prop) (μ : St → Hp → Nat) (h0 : Pv σ H)
    (hs : ∀ σ H, Pv σ H → c σ H fun b H1 => if b = true then tb { D with nx := fun σ' H' => Pv σ' H' ∧ μ σ' H' < μ σ H, ct := fun σ' H' => Pv σ' H' ∧ μ σ' H' < μ σ H, bk := D.nx } σ H1 else D.nx σ H1)
    (mono : ∀ σ H Q Q', (∀ b H1, Q b H1 → Q' b H1) → c σ H Q → c σ H Q') : tWhile c tb D σ H := by
  refine ⟨fun m σ H => m = μ σ H ∧ Pv σ H, ⟨_, rfl, h0⟩, ?_⟩
  rintro m σ H ⟨rfl, p⟩
  refine mono σ H _ _ (fun b H1 q => ?_) (hs σ H p)
  cases b with
  | true => exact ⟨_, fun σ' H' ⟨p', l⟩ => ⟨_, l, rfl, p'⟩, q⟩
  | false => exact q
end L2

namespace L2
open PySem PySem.Spec PyProof.Rows

noncomputable abbrev R2 := V → V → Hp → VK → Prop
/-- a two-place operation on values: f is binaryOp op, inplaceOp op or compareOp op -/
noncomputable def OpR (X : Cx) (f : Value → Value → Sem Value) (r : R2) : Prop :=
  ∀ (pins : List (Addr × Obj)) (s : Shared) (σ : St) (H : Hp) (x y : V) (v u : Value) (Q : VK), Inv X pins σ H s → RelV x v → RelV y u → r x y H Q →
    wpAny (model X.prog X.w) X.A (f v u) (EP X pins σ Q) X.xe s
/-- a call of a value that is known (a builtin, a type) with values -/
noncomputable def CallR (X : Cx) (f : Value) (r : List V → Hp → VK → Prop) : Prop :=
  ∀ (pins : List (Addr × Obj)) (s : Shared) (σ : St) (H : Hp) (xs : List V) (us : List Value) (Q : VK), Inv X pins σ H s → Vals xs us → r xs H Q →
    wpAny (model X.prog X.w) X.A (call f us) (EP X pins σ Q) X.xe s

noncomputable def tOp (r : R2) (ta tb : TE) : TE := fun σ H Q => ta σ H fun x H1 => tb σ H1 fun y H2 => r x y H2 Q
/-- ints in, under C, and a value out -/
noncomputable def rI (C : Int → Int → Prop) (g : Int → Int → V) : R2 := fun x y H Q => ∃ i j, x = .int i ∧ y = .int j ∧ C i j ∧ Q (g i j) H
noncomputable def rI0 (g : Int → Int → V) : R2 := fun x y H Q => ∃ i j, x = .int i ∧ y = .int j ∧ Q (g i j) H

section
variable {X : Cx} {a b c : Expr} {ta tb tc : TE} {pos : Pos}

theorem binT (ha : PE X a ta) (hb : PE X b tb) {pins : List (Addr × Obj)} {s : Shared} {σ : St} {H : Hp} {R : V → V → Hp → Prop} (I : Inv X pins σ H s)
    (h : ta σ H fun x H1 => tb σ H1 fun y H2 => R x y H2) {Q : Value → Shared → Prop} {f : Value → Value → Sem Value}
    (hf : ∀ v u s2 x y H2, Inv X pins σ H2 s2 → RelV x v → RelV y u → R x y H2 → wpAny (model X.prog X.w) X.A (f v u) Q X.xe s2) :
    wpAny (model X.prog X.w) X.A (eval a X.env) (fun v s₁ => wpAny (model X.prog X.w) X.A (eval b X.env) (fun u s₂ => wpAny (model X.prog X.w) X.A (f v u) Q X.xe s₂) X.xe s₁) X.xe s := by
  refine thn (ha pins s σ H _ I h) fun v s1 hPat => ?_
  obtain ⟨x, H1, I1, r1, q1⟩ := hPat
  refine thn (hb pins s1 σ H1 _ I1 q1) fun u s2 hPat => ?_
  obtain ⟨y, H2, I2, r2, q2⟩ := hPat
  exact hf v u s2 x y H2 I2 r1 r2 q2

theorem pe_op {op : Operator} {r : R2} (ho : OpR X (binaryOp op) r) (ha : PE X a ta) (hb : PE X b tb) : PE X (.BinOp a op b pos) (tOp r ta tb) := by
  intro pins s σ H Q I h
  exact wpAny_BinOp (binT ha hb I h fun v u s2 x y H2 I2 rx ry q => ho pins s2 σ H2 x y v u Q I2 rx ry q)

/-! ### ints -/
theorem opI {f : Value → Value → Sem Value} {C : Int → Int → Prop} {g : Int → Int → Int}
    (rule : ∀ (i j : Int) (t u : Tok) (s : Shared) (Q : Value → Shared → Prop) (E : Value → Shared → Prop), C i j → Q (.int (g i j) s.toks) { s with toks := s.toks + 1 } → wpAny (model X.prog X.w) X.A (f (.int i t) (.int j u)) Q E s) :
    OpR X f (rI C fun i j => .int (g i j)) := by
  intro pins s σ H x y v u Q I rx ry h
  obtain ⟨i, j, rfl, rfl, hc, q⟩ := h
  obtain ⟨t, rfl⟩ := rx
  obtain ⟨t', rfl⟩ := ry
  exact rule i j t t' s _ _ hc ⟨.int (g i j), H, I.tok _, ⟨_, rfl⟩, q⟩
theorem opI0 {f : Value → Value → Sem Value} {g : Int → Int → Int}
    (rule : ∀ (i j : Int) (t u : Tok) (s : Shared) (Q : Value → Shared → Prop) (E : Value → Shared → Prop), Q (.int (g i j) s.toks) { s with toks := s.toks + 1 } → wpAny (model X.prog X.w) X.A (f (.int i t) (.int j u)) Q E s) :
    OpR X f (rI0 fun i j => .int (g i j)) := by
  intro pins s σ H x y v u Q I rx ry h
  obtain ⟨i, j, rfl, rfl, q⟩ := h
  obtain ⟨t, rfl⟩ := rx
  obtain ⟨t', rfl⟩ := ry
  exact rule i j t t' s _ _ ⟨.int (g i j), H, I.tok _, ⟨_, rfl⟩, q⟩
theorem opB0 {f : Value → Value → Sem Value} {g : Int → Int → Bool}
    (rule : ∀ (i j : Int) (t u : Tok) (s : Shared) (Q : Value → Shared → Prop) (E : Value → Shared → Prop), Q (.bool (g i j)) s → wpAny (model X.prog X.w) X.A (f (.int i t) (.int j u)) Q E s) :
    OpR X f (rI0 fun i j => .bl (g i j)) := by
  intro pins s σ H x y v u Q I rx ry h
  obtain ⟨i, j, rfl, rfl, q⟩ := h
  obtain ⟨t, rfl⟩ := rx
  obtain ⟨t', rfl⟩ := ry
  exact rule i j t t' s _ _ ⟨.bl (g i j), H, I, rfl, q⟩

noncomputable def CPow (i j : Int) : Prop := 0 ≤ j ∧ j ≤ 1000000 ∧ i.natAbs < 2 ^ 64
noncomputable def CMul (i j : Int) : Prop := (-(2 ^ 64) < i ∧ i < 2 ^ 64) ∨ (-(2 ^ 64) < j ∧ j < 2 ^ 64)
theorem CMul.ok {i j : Int} (h : CMul i j) : IntMulOk i j := by
  rcases h with ⟨h1, h2⟩ | ⟨h1, h2⟩
  · exact .of_left (intBits_le_64 h1 h2)
  · exact .of_right (intBits_le_64 h1 h2)
theorem two_pow_nn (k : Nat) : (0 : Int) ≤ 2 ^ k := by
  rw [two_pow_cast]
  exact Int.natCast_nonneg _

theorem op_add : OpR X (binaryOp .Add) (rI0 fun i j => .int (i + j)) := opI0 fun _ _ _ _ _ _ _ q => add_int q
theorem op_sub : OpR X (binaryOp .Sub) (rI0 fun i j => .int (i - j)) := opI0 fun _ _ _ _ _ _ _ q => sub_int q
theorem op_mul : OpR X (binaryOp .Mult) (rI CMul fun i j => .int (i * j)) := opI fun _ _ _ _ _ _ _ hc q => mul_int q hc.ok
/-- % by a positive divisor of any size -/
theorem op_mod : OpR X (binaryOp .Mod) (rI (fun _ j => 0 < j) fun i j => .int (i % j)) := opI fun i j _ _ _ _ _ hc q => by
  have h1 : (0 : Int) < j := hc
  exact mod_int' (by omega) (by rw [Int.fmod_eq_emod_of_nonneg i (by omega)]; exact q)
theorem op_shl : OpR X (binaryOp .LShift) (rI CPow fun i j => .int (i * 2 ^ j.toNat)) := opI fun _ _ _ _ _ _ _ hc q => lshift_int_small hc.1 hc.2.1 hc.2.2 q
theorem op_shr : OpR X (binaryOp .RShift) (rI (fun _ j => 0 ≤ j) fun i j => .int (i / 2 ^ j.toNat)) := opI fun i j _ _ _ _ _ hc q =>
  rshift_int hc (by rw [Int.fdiv_eq_ediv_of_nonneg i (two_pow_nn _)]; exact q)
theorem op_and : OpR X (binaryOp .BitAnd) (rI0 fun i j => .int (Builtin.bitAnd i j)) := opI0 fun _ _ _ _ _ _ _ q => and_int q

/-! ### bools among ints: n += (a < b) -/
end

/-! ### comparisons -/
/-- the scalars that == tells apart as data does -/
noncomputable def scal : V → V → Bool
  | .non, .non => true | .non, .int _ => true | .int _, .non => true | .non, .bl _ => true | .bl _, .non => true | .non, .str _ => true | .str _, .non => true
  | .int _, .int _ => true | .bl _, .bl _ => true | .str _, .str _ => true | .byt _, .byt _ => true
  | .int _, .str _ => true | .str _, .int _ => true | .bl _, .str _ => true | .str _, .bl _ => true
  | _, _ => false
noncomputable def rEq : R2 := fun x y H Q => scal x y = true ∧ Q (.bl (decide (x = y))) H
noncomputable def rNe : R2 := fun x y H Q => scal x y = true ∧ Q (.bl (!decide (x = y))) H

theorem dec_int {i j : Int} : decide (V.int i = V.int j) = (i == j) := by
  rw [Bool.eq_iff_iff]
  simp
theorem dec_bl {i j : Bool} : decide (V.bl i = V.bl j) = (i == j) := by
  rw [Bool.eq_iff_iff]
  simp
theorem dec_str {i j : Str} : decide (V.str i = V.str j) = (i == j) := by
  rw [Bool.eq_iff_iff]
  simp
theorem dec_byt {i j : Array UInt8} : decide (V.byt i = V.byt j) = (i.toList == j.toList) := by
  rw [Bool.eq_iff_iff]
  cases i
  cases j
  simp

section
variable {X : Cx} {a b c : Expr} {ta tb tc : TE} {pos : Pos}
theorem fin_bl {pins : List (Addr × Obj)} {σ : St} {H : Hp} {s : Shared} {Q : VK} {k k' : Bool} (I : Inv X pins σ H s) (q : Q (.bl k) H) (e : k = k') : EP X pins σ Q (.bool k') s := by
  subst e
  exact ⟨.bl k, H, I, rfl, q⟩
theorem op_eq : OpR X (compareOp .Eq) rEq := by
  intro pins s σ H x y v u Q I rx ry h
  obtain ⟨hs, q⟩ := h
  cases x with
  | non =>
    cases rx
    cases y with
    | non => cases ry; exact PySem.EqNone.eq_none_none (fin_bl I q (by simp))
    | bl j => cases ry; exact PySem.EqNone.eq_none_bool (fin_bl I q (by simp))
    | int j => obtain ⟨t', rfl⟩ := ry; exact PySem.EqNone.eq_none_int (fin_bl I q (by simp))
    | str j => obtain ⟨t', rfl⟩ := ry; exact PySem.EqNone.eq_none_str (fin_bl I q (by simp))
    | _ => exact absurd (show false = true from hs) Bool.false_ne_true
  | bl i =>
    cases rx
    cases y with
    | non => cases ry; exact PySem.EqNone.eq_bool_none (fin_bl I q (by simp))
    | bl j => cases ry; exact eq_bool (fin_bl I q dec_bl)
    | str j => obtain ⟨t', rfl⟩ := ry; exact PySem.EqMixed.eq_bool_str (fin_bl I q (by simp))
    | _ => exact absurd (show false = true from hs) Bool.false_ne_true
  | int i =>
    obtain ⟨t, rfl⟩ := rx
    cases y with
    | non => cases ry; exact PySem.EqNone.eq_int_none (fin_bl I q (by simp))
    | int j => obtain ⟨t', rfl⟩ := ry; exact eq_int (fin_bl I q dec_int)
    | str j => obtain ⟨t', rfl⟩ := ry; exact PySem.EqMixed.eq_int_str (fin_bl I q (by simp))
    | _ => exact absurd (show false = true from hs) Bool.false_ne_true
  | str i =>
    obtain ⟨t, rfl⟩ := rx
    cases y with
    | non => cases ry; exact PySem.EqNone.eq_str_none (fin_bl I q (by simp))
    | bl j => cases ry; exact PySem.EqMixed.eq_str_bool (fin_bl I q (by simp))
    | int j => obtain ⟨t', rfl⟩ := ry; exact PySem.EqMixed.eq_str_int (fin_bl I q (by simp))
    | str j => obtain ⟨t', rfl⟩ := ry; exact eq_str (fin_bl I q dec_str)
    | _ => exact absurd (show false = true from hs) Bool.false_ne_true
  | byt i =>
    obtain ⟨t, rfl⟩ := rx
    cases y with
    | byt j => obtain ⟨t', rfl⟩ := ry; exact PySem.W.eq_bytes (fin_bl I q dec_byt)
    | _ => exact absurd (show false = true from hs) Bool.false_ne_true
  | _ => cases y <;> exact absurd (show false = true from hs) Bool.false_ne_true
theorem op_ne : OpR X (compareOp .NotEq) rNe := by
  intro pins s σ H x y v u Q I rx ry h
  obtain ⟨hs, q⟩ := h
  cases x with
  | non =>
    cases rx
    cases y with
    | non => cases ry; exact PySem.EqNone.ne_none_none (fin_bl I q (by simp))
    | bl j => cases ry; exact PySem.EqNone.ne_none_bool (fin_bl I q (by simp))
    | int j => obtain ⟨t', rfl⟩ := ry; exact PySem.EqNone.ne_none_int (fin_bl I q (by simp))
    | str j => obtain ⟨t', rfl⟩ := ry; exact PySem.EqNone.ne_none_str (fin_bl I q (by simp))
    | _ => exact absurd (show false = true from hs) Bool.false_ne_true
  | bl i =>
    cases rx
    cases y with
    | non => cases ry; exact PySem.EqNone.ne_bool_none (fin_bl I q (by simp))
    | bl j => cases ry; exact ne_bool (fin_bl I q (congrArg not dec_bl))
    | str j => obtain ⟨t', rfl⟩ := ry; exact PySem.EqMixed.ne_bool_str (fin_bl I q (by simp))
    | _ => exact absurd (show false = true from hs) Bool.false_ne_true
  | int i =>
    obtain ⟨t, rfl⟩ := rx
    cases y with
    | non => cases ry; exact PySem.EqNone.ne_int_none (fin_bl I q (by simp))
    | int j => obtain ⟨t', rfl⟩ := ry; exact ne_int (fin_bl I q (congrArg not dec_int))
    | str j => obtain ⟨t', rfl⟩ := ry; exact PySem.EqMixed.ne_int_str (fin_bl I q (by simp))
    | _ => exact absurd (show false = true from hs) Bool.false_ne_true
  | str i =>
    obtain ⟨t, rfl⟩ := rx
    cases y with
    | non => cases ry; exact PySem.EqNone.ne_str_none (fin_bl I q (by simp))
    | bl j => cases ry; exact PySem.EqMixed.ne_str_bool (fin_bl I q (by simp))
    | int j => obtain ⟨t', rfl⟩ := ry; exact PySem.EqMixed.ne_str_int (fin_bl I q (by simp))
    | str j => obtain ⟨t', rfl⟩ := ry; exact ne_str (fin_bl I q (congrArg not dec_str))
    | _ => exact absurd (show false = true from hs) Bool.false_ne_true
  | byt i =>
    obtain ⟨t, rfl⟩ := rx
    cases y with
    | byt j => obtain ⟨t', rfl⟩ := ry; exact PySem.W.ne_bytes (fin_bl I q (congrArg not dec_byt))
    | _ => exact absurd (show false = true from hs) Bool.false_ne_true
  | _ => cases y <;> exact absurd (show false = true from hs) Bool.false_ne_true

theorem op_lt : OpR X (compareOp .Lt) (rI0 fun i j => .bl (decide (i < j))) := opB0 fun _ _ _ _ _ _ _ q => lt_int q
theorem op_le : OpR X (compareOp .LtE) (rI0 fun i j => .bl (decide (i ≤ j))) := opB0 fun _ _ _ _ _ _ _ q => le_int q
theorem op_gt : OpR X (compareOp .Gt) (rI0 fun i j => .bl (decide (j < i))) := opB0 fun _ _ _ _ _ _ _ q => gt_int q
theorem op_ge : OpR X (compareOp .GtE) (rI0 fun i j => .bl (decide (j ≤ i))) := opB0 fun _ _ _ _ _ _ _ q => ge_int q

theorem nomark (b : Expr) {op : CmpOp} (h : op ≠ .In := by decide) (h2 : op ≠ .NotIn := by decide) : behindInMarks op b = false := by
  have e1 : (op == CmpOp.In) = false := by cases op <;> first | rfl | exact absurd rfl h
  have e2 : (op == CmpOp.NotIn) = false := by cases op <;> first | rfl | exact absurd rfl h2
  cases b <;> simp [behindInMarks, e1, e2]
/-- a comparison as a value; hm: nomark b, or (for in, not in) by with_unfolding_all rfl -/
theorem pe_cmpR {op : CmpOp} {r : R2} (ho : OpR X (compareOp op) r) (ha : PE X a ta) (hb : PE X b tb) (hm : behindInMarks op b = false) : PE X (.Compare a [op] [b] pos) (tOp r ta tb) := by
  intro pins s σ H Q I h
  exact wpAny_Compare1 (binT ha hb I h fun v u s2 x y H2 I2 rx ry q => ho pins s2 σ H2 x y v u Q I2 rx ry q) hm
/-- a reading of a value as a test -/
noncomputable def tTest (t : TE) : TT := fun σ H Q => t σ H fun x H' => ∃ k, x = .bl k ∧ Q k H'
theorem pt_cmpR {op : CmpOp} {r : R2} (ho : OpR X (compareOp op) r) (ha : PE X a ta) (hb : PE X b tb) (hm : behindInMarks op b = false) : PT X (.Compare a [op] [b] pos) (tTest (tOp r ta tb)) := by
  intro pins s σ H Q I h
  refine wpAny_isTrue_Compare1 (thn (ha pins s σ H _ I h) fun v s1 hPat => ?_) hm
  obtain ⟨x, H1, I1, r1, q1⟩ := hPat
  refine thn (hb pins s1 σ H1 _ I1 q1) fun u s2 ⟨y, H2, I2, r2, q2⟩ =>
    thn (ho pins s2 σ H2 x y v u _ I2 r1 r2 q2) fun c s3 hPat => ?_
  obtain ⟨z, H3, I3, r3, k, e, q3⟩ := hPat
  subst e
  cases r3
  exact wpAny_truthy_bool ⟨H3, I3, q3⟩
/-- a op1 b op2 c -/
noncomputable def tChain (r r' : R2) (ta tb tc : TE) : TE := fun σ H Q => ta σ H fun x H1 => tb σ H1 fun y H2 => r x y H2 fun z H3 => ∃ k, z = .bl k ∧
  (if k = true then tc σ H3 fun w' H4 => r' y w' H4 Q else Q (.bl false) H3)
theorem pe_chain {op op' : CmpOp} {r r' : R2} (ho : OpR X (compareOp op) r) (ho' : OpR X (compareOp op') r') (ha : PE X a ta) (hb : PE X b tb) (hc : PE X c tc)
    (hm : lastMarks [op, op'] [b, c] = false := by with_unfolding_all rfl) : PE X (.Compare a [op, op'] [b, c] pos) (tChain r r' ta tb tc) := by
  intro pins s σ H Q I h
  refine Compare_chain (thn (ha pins s σ H _ I h) fun v s1 hPat => ?_) hm
  obtain ⟨x, H1, I1, r1, q1⟩ := hPat
  refine chain_link (thn (hb pins s1 σ H1 _ I1 q1) fun u s2 ⟨y, H2, I2, r2, q2⟩ =>
    thn (ho pins s2 σ H2 x y v u _ I2 r1 r2 q2) fun d s3 hPat => ?_)
  obtain ⟨z, H3, I3, r3, k, e, q3⟩ := hPat
  subst e
  cases r3
  refine wpAny_truthy_bool ?_
  cases k with
  | false => exact ite_ff ⟨.bl false, H3, I3, rfl, q3⟩
  | true => exact ite_tt (chain_last (thn (hc pins s3 σ H3 _ I3 q3) fun w' s4 ⟨z', H4, I4, r4, q4⟩ => ho' pins s4 σ H4 y z' u w' Q I4 r2 r4 q4))
theorem pt_chain {op op' : CmpOp} {r r' : R2} (ho : OpR X (compareOp op) r) (ho' : OpR X (compareOp op') r') (ha : PE X a ta) (hb : PE X b tb) (hc : PE X c tc)
    (hm : lastMarks [op, op'] [b, c] = false := by with_unfolding_all rfl) : PT X (.Compare a [op, op'] [b, c] pos) (tTest (tChain r r' ta tb tc)) := by
  intro pins s σ H Q I h
  refine isTrue_chain (thn (ha pins s σ H _ I h) fun v s1 hPat => ?_) hm
  obtain ⟨x, H1, I1, r1, q1⟩ := hPat
  refine test_link (thn (hb pins s1 σ H1 _ I1 q1) fun u s2 ⟨y, H2, I2, r2, q2⟩ =>
    thn (ho pins s2 σ H2 x y v u _ I2 r1 r2 q2) fun d s3 hPat => ?_)
  obtain ⟨z, H3, I3, r3, k, e, q3⟩ := hPat
  subst e
  cases r3
  refine wpAny_truthy_bool ?_
  cases k with
  | false =>
    obtain ⟨k', e', q'⟩ := q3
    cases e'
    exact ite_ff ⟨H3, I3, q'⟩
  | true =>
    refine ite_tt (test_last (thn (hc pins s3 σ H3 _ I3 q3) fun w' s4 hPat => ?_))
    obtain ⟨z', H4, I4, r4, q4⟩ := hPat
    refine thn (ho' pins s4 σ H4 y z' u w' _ I4 r2 r4 q4) fun d' s5 hPat => ?_
    obtain ⟨z2, H5, I5, r5, k2, e2, q5⟩ := hPat
    subst e2
    cases r5
    exact wpAny_truthy_bool ⟨H5, I5, q5⟩

/-! ### truth -/
theorem line63 : (sizeLine : Nat) < 2 ^ 63 := by rw [sizeLine_eq]; decide

/-! ### strs and bytes -/

/-! ### scalar builtins, by CallR -/
theorem vals1 {x : V} {us : List Value} (r : Vals [x] us) : ∃ u, us = [u] ∧ RelV x u := by
  cases r with
  | cons r1 r2 => cases r2; exact ⟨_, rfl, r1⟩
theorem vals2 {x y : V} {us : List Value} (r : Vals [x, y] us) : ∃ u w', us = [u, w'] ∧ RelV x u ∧ RelV y w' := by
  cases r with
  | cons r1 r2 =>
    cases r2 with
    | cons r3 r4 => cases r4; exact ⟨_, _, rfl, r1, r3⟩
theorem call_abs : CallR X (.builtin "abs") (fun xs H Q => ∃ i, xs = [.int i] ∧ Q (.int (if i < 0 then -i else i)) H) := by
  intro pins s σ H xs us Q I r h
  obtain ⟨i, rfl, q⟩ := h
  obtain ⟨u, rfl, t, rfl⟩ := vals1 r
  exact call_abs_int fun u tk => ⟨.int (if i < 0 then -i else i), H, I.tok _, ⟨_, rfl⟩, q⟩
theorem call_max2 (hc : X.calm = true) : CallR X (.builtin "max") (fun xs H Q => ∃ i j, xs = [.int i, .int j] ∧ Q (.int (if j > i then j else i)) H) := by
  intro pins s σ H xs us Q I r h
  obtain ⟨i, j, rfl, q⟩ := h
  obtain ⟨u, w', rfl, ⟨t, rfl⟩, ⟨t', rfl⟩⟩ := vals2 r
  refine max_two_ints (I.ok.hd hc) fun h' tk k => ⟨_, H, I.kept k, ?_, q⟩
  by_cases hj : j > i
  · rw [if_pos hj, if_pos hj]; exact ⟨_, rfl⟩
  · rw [if_neg hj, if_neg hj]; exact ⟨_, rfl⟩
end
end L2

namespace L2
open PySem PySem.Spec PyProof.Rows

/-! ### an instance, its attributes a map -/
structure ObjM (h : Heap) (x dx C : Addr) (mA : Str → Option Value) : Prop where
  obj : h.get? x = some (PySem.W.instObj C dx)
  ns : h.Ns1 dx mA
  ne : dx ≠ x

theorem lookIn_ns {h : Heap} {dx : Addr} {mA : Str → Option Value} (n : h.Ns1 dx mA) : ∃ od, h.get? dx = some od ∧ ∀ name, PySem.W.lookIn name od = some (mA name) := by
  obtain ⟨o, es, ep, ho, hd, hk, _, hm⟩ := n
  refine ⟨o, ho, fun name => ?_⟩
  have e := hm name
  unfold nsFind findBy at e
  rw [← Array.find?_toList] at e
  unfold PySem.W.lookIn
  rw [hd]
  dsimp only
  split
  · rename_i y q
    rw [q] at e
    exact congrArg some e
  · rename_i q
    rw [q] at e
    have a : es.toList.any (·.refKey) = false := by
      rw [List.any_eq_false]
      intro y hy
      obtain ⟨z, t, hkey⟩ := hk y (Array.mem_toList_iff.mp hy)
      simp [DictEntry.refKey, hkey]
    have a' : ¬ es.toList.any (·.refKey) = true := by rw [a]; exact Bool.false_ne_true
    rw [if_neg a']
    exact congrArg some e

theorem ObjM.look {h : Heap} {x dx C : Addr} {mA : Str → Option Value} (I : ObjM h x dx C mA) : ∃ od, PySem.W.InstAt h x (PySem.W.instObj C dx) C (some od) ∧ ∀ name, PySem.W.lookIn name od = some (mA name) :=
  let ⟨od, ho, hl⟩ := lookIn_ns I.ns
  ⟨od, ⟨I.obj, rfl, rfl, ho⟩, hl⟩

section
variable {prog : Program} {w : World} {A : Around} {E : Value → Shared → Prop} {s : Shared} {K : PySem.W.Frag} {x dx C f : Addr} {mA : Str → Option Value} {name : Str} {v : Value}

theorem get_map {expr : Bool} {Q : Value → Shared → Prop} (X : K.In s.heap) (I : ObjM s.heap x dx C mA) (hg : PySem.W.plainGet K C name = true) (hh : PySem.W.hasDictIn K C = true)
    (ha : PySem.W.findIn K (.ref C) name = some none) (hv : mA name = some v) (hv' : PySem.W.handedIn v = true) (h : Q v { s with toks := s.toks + 1 }) :
    wpAny (model prog w) A (getAttr (.ref x) name expr) Q E s := by
  obtain ⟨od, J, hl⟩ := I.look
  exact PySem.W.get_value X J (PySem.W.plainGet_of hg).1 (PySem.W.findObj_own hh ha rfl (by rw [hl, hv])) hv' h

theorem get_meth {pl : Sem Bool} {Q : Value × List Value → Shared → Prop} (X : K.In s.heap) (I : ObjM s.heap x dx C mA) (hg : PySem.W.plainGet K C name = true)
    (hf : PySem.W.findIn K (.ref C) name = some (some (.ref f))) (ht : PySem.W.isFn K (.ref f) = true) (hv : mA name = none) (h : Q (.ref f, [.ref x]) s) :
    wpAny (model prog w) A (getMethod (.ref x) name pl) Q E s := by
  obtain ⟨od, J, hl⟩ := I.look
  exact PySem.W.method_fn X J (PySem.W.plainGet_of hg).1 (PySem.W.plainGet_of hg).2 hf (beq_iff_eq.mp ht) (by show (PySem.W.lookIn name od).map (·.isSome) = some false; rw [hl, hv]; rfl) h

theorem set_map {ns : List Str} {Q : Unit → Shared → Prop} (X : K.In s.heap) (I : ObjM s.heap x dx C mA)
    (hs : PySem.W.findIn K (.ref C) "__setattr__" = some (some (.builtin "object.__setattr__"))) (hp : PySem.W.plainOver K C = true) (ht : PySem.W.takerIn K C name = some none) (hh : PySem.W.hasDictIn K C = true)
    (hw : PySem.Within mA ns) (hsz : ns.length ≤ sizeLine)
    (h : ∀ h', ObjM h' x dx C (fun y => if y = name then some v else mA y) → Heap.SameBut dx s.heap h' → Q () { s with heap := h', toks := s.toks + 2 }) :
    wpAny (model prog w) A (setAttr (.ref x) name v) Q E s := by
  obtain ⟨od, J, hl⟩ := I.look
  refine PySem.W.set_plain X J hs (PySem.W.osa_open (s := { s with toks := s.toks + 1 }) (r := none) X J hp ht fun b => ?_)
  obtain ⟨cd, hc, hd'⟩ := PySem.W.any_some hh
  have hx : s.heap.get? x = some ⟨.ref C, some dx, .plain, #[]⟩ := I.obj
  refine wpAny_bind (wpAny_pure (wpAny_bind (wpAny_bind (wpAny_loadPart hx (wpAny_bind (PySem.W.Looks.here (s := { s with toks := s.toks + 1 }) (PySem.W.looks_clsIn X hc) ?_))))))
  rw [hd']
  refine wpAny_pure (a := some dx) (wpAny_bind (wpAny_pure (wpAny_bind ?_)))
  refine wpAny_nsSet1 (s := { s with toks := s.toks + 1 }) I.ns fun h' hn2 hs2 => ?_
  obtain ⟨oD, esD, epD, hoD, hdD, hcD⟩ := hn2.count (PySem.Within.cons name v hw)
  refine wpAny_bind (wpAny_lookBehind hoD (by rw [hdD]; exact pastItsLine_dict (Nat.le_trans hcD (by rw [List.length_cons]; omega))) ?_)
  exact wpAny_pure (h _ ⟨(hs2.2 _ (Ne.symm I.ne)).trans I.obj, hn2, I.ne⟩ hs2)

/-- C(..): the dict at the heap's end, the instance behind it; then its __init__ -/
theorem make_map {R : Result → Shared → Prop} {vs : List Value} {kw : List (Str × Value)} (X : K.In s.heap) (hm : PySem.W.makesIn K C = true)
    (hi : PySem.W.findIn K (.ref C) "__init__" = some (some (.ref f))) (hf : PySem.W.typeIn K (.ref f) = some (.type "function"))
    (h : codeAny (model prog w) (A.under (.builtin "type.__call__" ⟨.ref C :: vs, kw⟩)) (.call (.ref f) ⟨.ref (s.heap.objs.size + 1) :: vs, kw⟩) (PySem.W.InitBack (s.heap.objs.size + 1) R)
      { s with heap := (s.heap.push PySem.W.emptyDict).push (PySem.W.instObj C s.heap.objs.size) }) :
    codeAny (model prog w) A (.call (.ref C) ⟨vs, kw⟩) R s := by
  obtain ⟨hh, g, d, t, os⟩ := s
  exact PySem.W.make_core (PySem.W.makes_of X hm) (PySem.W.looks_findIn X hi) (fun self => PySem.W.bind_fn X self hf) (.inl rfl) h
end

/-! ### the attributes as a list of pairs -/
noncomputable def putF (f : Str) (v : V) : List (Str × V) → List (Str × V)
  | [] => [(f, v)]
  | (g, x) :: r => if g = f then (g, v) :: r else (g, x) :: putF f v r
theorem lookup_putF (f g : Str) (v : V) : ∀ fs : List (Str × V), (putF f v fs).lookup g = if g = f then some v else fs.lookup g
  | [] => by
    show List.lookup g [(f, v)] = _
    by_cases h : g = f
    · have hb : (g == f) = true := beq_iff_eq.mpr h
      simp only [List.lookup, hb, if_pos h]
    · have hb : (g == f) = false := beq_eq_false_iff_ne.mpr h
      simp only [List.lookup, hb, if_neg h]
  | (k, x) :: r => by
    have ih := lookup_putF f g v r
    rw [show putF f v ((k, x) :: r) = (if k = f then (k, v) :: r else (k, x) :: putF f v r) from rfl]
    by_cases hk : k = f
    · rw [if_pos hk]
      by_cases h : g = k
      · have hb : (g == k) = true := beq_iff_eq.mpr h
        simp only [List.lookup, hb, if_pos (h.trans hk)]
      · have hb : (g == k) = false := beq_eq_false_iff_ne.mpr h
        simp only [List.lookup, hb, if_neg (fun e : g = f => h (e.trans hk.symm))]
    · rw [if_neg hk]
      by_cases h : g = k
      · have hb : (g == k) = true := beq_iff_eq.mpr h
        simp only [List.lookup, hb, if_neg (fun e : g = f => hk (h.symm.trans e))]
      · have hb : (g == k) = false := beq_eq_false_iff_ne.mpr h
        simp only [List.lookup, hb]
        exact ih
theorem keys_putF (f : Str) (v : V) : ∀ fs : List (Str × V), f ∈ (putF f v fs).map (·.1) ∧ ∀ g, g ∈ fs.map (·.1) → g ∈ (putF f v fs).map (·.1)
  | [] => ⟨by simp [putF], fun g h => by simp at h⟩
  | (k, x) :: r => by
    obtain ⟨i1, i2⟩ := keys_putF f v r
    rw [show putF f v ((k, x) :: r) = (if k = f then (k, v) :: r else (k, x) :: putF f v r) from rfl]
    by_cases hk : k = f
    · rw [if_pos hk]
      subst hk
      exact ⟨by simp, fun g h => by simpa using h⟩
    · rw [if_neg hk]
      refine ⟨?_, fun g h => ?_⟩
      · rw [List.map_cons]
        exact List.mem_cons_of_mem _ i1
      · rw [List.map_cons] at h ⊢
        rcases List.mem_cons.mp h with e | e
        · exact List.mem_cons.mpr (.inl e)
        · exact List.mem_cons_of_mem _ (i2 g e)
theorem length_putF (f : Str) (v : V) : ∀ fs : List (Str × V), (putF f v fs).length ≤ fs.length + 1
  | [] => by simp [putF]
  | (k, x) :: r => by
    have ih := length_putF f v r
    rw [show putF f v ((k, x) :: r) = (if k = f then (k, v) :: r else (k, x) :: putF f v r) from rfl]
    by_cases hk : k = f
    · rw [if_pos hk, List.length_cons, List.length_cons]; omega
    · rw [if_neg hk, List.length_cons, List.length_cons]; omega

theorem RelO.some_of {v : V} {o : Option Value} (r : RelO (some v) o) : ∃ u, o = some u ∧ RelV v u := by
  cases o with
  | none => exact (show False from r).elim
  | some u => exact ⟨u, rfl, r⟩
theorem RelO.none_of {o : Option Value} (r : RelO none o) : o = none := by
  cases o with
  | none => rfl
  | some u => exact (show False from r).elim
theorem handed_of {v : V} {u : Value} (r : RelV v u) : PySem.W.handedIn u = true := by
  cases v with
  | non => cases (show u = Value.none from r); rfl
  | bl b => cases (show u = Value.bool b from r); rfl
  | int i => obtain ⟨t, e⟩ := (show ∃ t, u = Value.int i t from r); cases e; rfl
  | str x => obtain ⟨t, e⟩ := (show ∃ t, u = Value.str x t from r); cases e; rfl
  | byt b => obtain ⟨t, e⟩ := (show ∃ t, u = Value.bytes b t from r); cases e; rfl
  | flt b => obtain ⟨t, e⟩ := (show ∃ t, u = Value.float b t from r); cases e; rfl
  | ref a => cases (show u = Value.ref a from r); rfl
  | ty n => cases (show u = Value.type n from r); rfl

section
variable {P : Program} {w : World} {H H' : Hp} {h h' : Heap} {a C dx : Addr} {fs fs' : List (Str × V)}
theorem ins_get (hok : HOk P w H h) (e : H a = some (.ins C dx fs)) : ∃ mA, ObjM h a dx C mA ∧ (∀ f, RelO (fs.lookup f) (mA f)) ∧ PySem.Within mA (fs.map (·.1)) ∧ fs.length ≤ 1000 ∧ H dx = some (.own a) := by
  obtain ⟨d, z, ne, ob, mA, n, r, q⟩ := (show ObjOk P w H h a (.ins C dx fs) from hok a _ e)
  exact ⟨mA, ⟨ob, n, ne⟩, r, q, z, d⟩
end

/-! ### what of the text a class must have -/
structure Cls (K : PySem.W.Frag) (C : Addr) : Prop where
  pg : PySem.W.plainGet K C Str.empty = true
  hd : PySem.W.hasDictIn K C = true
  po : PySem.W.plainOver K C = true
  sa : PySem.W.findIn K (.ref C) "__setattr__" = some (some (.builtin "object.__setattr__"))
theorem Cls.get {K : PySem.W.Frag} {C : Addr} (c : Cls K C) (f : Str) : PySem.W.plainGet K C f = true := c.pg
/-- no class of it has the name -/
noncomputable def NoAttr (K : PySem.W.Frag) (C : Addr) (f : Str) : Prop := PySem.W.findIn K (.ref C) f = some none
theorem NoAttr.taker {K : PySem.W.Frag} {C : Addr} {f : Str} (n : NoAttr K C f) : PySem.W.takerIn K C f = some none := by
  unfold PySem.W.takerIn
  rw [show PySem.W.findIn K (.ref C) f = some none from n]
  rfl
/-- a constant of the class -/
structure Con (K : PySem.W.Frag) (C : Addr) (f : Str) (v : V) (u : Value) : Prop where
  at_ : PySem.W.findIn K (.ref C) f = some (some u)
  rel : RelV v u
  get : PySem.W.specialIn K u "__get__" = some none
  cp : PySem.W.copiedNames.contains f = false
/-- a method: a plain def of the class or of one above it -/
structure Meth (K : PySem.W.Frag) (C : Addr) (m : Str) (f : Addr) : Prop where
  at_ : PySem.W.findIn K (.ref C) m = some (some (.ref f))
  fn : PySem.W.isFn K (.ref f) = true
  kp : PySem.W.keepIn K (.ref f) = true

section
variable {X : Cx} {pins : List (Addr × Obj)} {σ : St} {H : Hp} {s : Shared} {a C dx : Addr} {fs : List (Str × V)} {f : Str} {v : V} {A : Around} {E : Value → Shared → Prop}

theorem getattr_ok {b : Bool} {Q : Value → Shared → Prop} (I : Inv X pins σ H s) (e : H a = some (.ins C dx fs)) (c : Cls X.K C) (n : NoAttr X.K C f) (l : fs.lookup f = some v)
    (h : ∀ u s', Inv X pins σ H s' → RelV v u → Q u s') : wpAny (model X.prog X.w) A (getAttr (.ref a) f b) Q E s := by
  obtain ⟨mA, O, r, _, _, _⟩ := ins_get I.hok e
  obtain ⟨u, hu, ru⟩ := RelO.some_of (v := v) (o := mA f) (by rw [← l]; exact r f)
  exact get_map I.kIn O (c.get f) c.hd n hu (handed_of ru) (h u _ (I.tok _) ru)

theorem getmeth_ok {m : Str} {g : Addr} {pl : Sem Bool} {Q : Value × List Value → Shared → Prop} (I : Inv X pins σ H s) (e : H a = some (.ins C dx fs)) (c : Cls X.K C) (k : Meth X.K C m g) (l : fs.lookup m = none)
    (h : Q (.ref g, [.ref a]) s) : wpAny (model X.prog X.w) A (getMethod (.ref a) m pl) Q E s := by
  obtain ⟨mA, O, r, _, _, _⟩ := ins_get I.hok e
  have hn : mA m = none := RelO.none_of (by rw [← l]; exact r m)
  exact get_meth I.kIn O (c.get m) k.at_ k.fn hn h

theorem setattr_ok {y : V} {u : Value} {Q : Unit → Shared → Prop} (I : Inv X pins σ H s) (e : H a = some (.ins C dx fs)) (c : Cls X.K C) (n : NoAttr X.K C f) (hl : fs.length < 1000) (ry : RelV y u)
    (h : ∀ s', Inv X pins σ (upd H a (.ins C dx (putF f y fs))) s' → Q () s') : wpAny (model X.prog X.w) A (setAttr (.ref a) f u) Q E s := by
  obtain ⟨mA, O, r, wi, _, ho⟩ := ins_get I.hok e
  have hz : (fs.map (·.1)).length ≤ sizeLine := by rw [List.length_map, sizeLine_eq]; omega
  refine set_map I.kIn O c.sa c.po n.taker c.hd wi hz fun h' O' sb => h _ ?_
  have hd : ∃ o, h'.get? dx = some o := let ⟨o, _, _, e', _⟩ := O'.ns; ⟨o, e'⟩
  refine I.write (x := a) (e := dx) (by rw [e]; exact True.intro) (.inr ho) (fun b q hb z => (sb.2 b hb).trans z) hd ?_
  refine ⟨by rw [upd_ne O.ne]; exact ho, ?_, O.ne, O'.obj, _, O'.ns, fun g => ?_, fun g hg => ?_⟩
  · have := length_putF f y fs; omega
  · show RelO ((putF f y fs).lookup g) (if g = f then some u else mA g)
    rw [lookup_putF]
    by_cases q : g = f
    · rw [if_pos q, if_pos q]; exact ry
    · rw [if_neg q, if_neg q]; exact r g
  · by_cases q : g = f
    · rw [q]; exact (keys_putF f y fs).1
    · refine (keys_putF f y fs).2 g (wi g fun z => hg ?_)
      show (if g = f then some u else mA g) = none
      rw [if_neg q]; exact z

/-- a new instance, tracked, without attributes -/
theorem Inv.made (I : Inv X pins σ H s) : Inv X pins σ (upd (upd H s.heap.objs.size (.own (s.heap.objs.size + 1))) (s.heap.objs.size + 1) (.ins C s.heap.objs.size []))
    { s with heap := (s.heap.push PySem.W.emptyDict).push (PySem.W.instObj C s.heap.objs.size) } := by
  have e1 : (s.heap.push PySem.W.emptyDict).get? s.heap.objs.size = some PySem.W.emptyDict := Heap.get?_push_size s.heap rfl
  have e2 : ((s.heap.push PySem.W.emptyDict).push (PySem.W.instObj C s.heap.objs.size)).get? (s.heap.objs.size + 1) = some (PySem.W.instObj C s.heap.objs.size) := by
    have := Heap.get?_push_size (s.heap.push PySem.W.emptyDict) (o := PySem.W.instObj C s.heap.objs.size) rfl
    rwa [Heap.size_push] at this
  have e3 : (s.heap.push PySem.W.emptyDict).Ns s.heap.objs.size (fun _ => none) := ⟨PySem.W.emptyDict, #[], _, e1, rfl, (fun e he => absurd he (by simp)), fun _ => rfl⟩
  have I1 := I.laid (a := s.heap.objs.size) (o := .own (s.heap.objs.size + 1)) (h' := s.heap.push PySem.W.emptyDict) (t' := s.toks) (fun b u q => Heap.get?_push_of_some _ q) (Nat.le_refl _) ⟨_, e1⟩
  refine I1.laid (a := s.heap.objs.size + 1) (o := .ins C s.heap.objs.size []) (t' := s.toks) (fun b u q => Heap.get?_push_of_some _ q) (Nat.le_of_eq (Heap.size_push _ _)) ?_
  have ne : s.heap.objs.size ≠ s.heap.objs.size + 1 := Nat.ne_of_lt (Nat.lt_succ_self _)
  refine ⟨by rw [upd_ne ne, upd_same], Nat.zero_le _, ne, e2, fun _ => none, (Heap.Ns1.of_empty e3).at fun o q => Heap.get?_push_of_some _ q, fun _ => True.intro, fun y hy => absurd rfl hy⟩

/-- e.f where nothing but the object is asked: through attributeBase (super) and the last hold -/
theorem attr_of {prog : Program} {w : World} {env : Env} {e : Expr} {f : Str} {pos : Pos} {s : Shared} {Q : Value → Shared → Prop} (hb : attributeBase e f env (eval e env) = eval e env)
    (h : wpAny (model prog w) A (eval e env) (fun o s₁ => wpAny (model prog w) A (getAttr o f true) Q E s₁) E s) : wpAny (model prog w) A (eval (.Attribute e f pos) env) Q E s :=
  Attribute_any_ h (by rw [arm_eval_Attribute, hb])
end

/-! ### readings and rules -/
/-- e.f, an attribute of the instance -/
noncomputable def tFld (K : PySem.W.Frag) (ta : TE) (f : Str) : TE := fun σ H Q => ta σ H fun x H1 => ∃ a C dx fs v, x = .ref a ∧ H1 a = some (.ins C dx fs) ∧ Cls K C ∧ NoAttr K C f ∧ fs.lookup f = some v ∧ Q v H1
/-- e.f = value -/
noncomputable def sFld (K : PySem.W.Frag) (ta tv : TE) (f : Str) : TS := fun D σ H => tv σ H fun y H1 => ta σ H1 fun x H2 => ∃ a C dx fs, x = .ref a ∧ H2 a = some (.ins C dx fs) ∧ Cls K C ∧ NoAttr K C f ∧ fs.length < 1000 ∧
  D.nx σ (upd H2 a (.ins C dx (putF f y fs)))

section
variable {X : Cx} {o e value : Expr} {f : Str} {pos pos' tpos : Pos} {ta tv : TE}
theorem pe_fld (he : PE X e ta) (hb : attributeBase e f X.env (eval e X.env) = eval e X.env) : PE X (.Attribute e f pos) (tFld X.K ta f) := by
  intro pins s σ H Q I h
  refine attr_of hb (thn (he pins s σ H _ I h) fun u s1 hPat => ?_)
  obtain ⟨x, H1, I1, rx, a, C, dx, fs, v, ex, ea, c, n, l, q⟩ := hPat
  subst ex
  obtain rfl : u = Value.ref a := rx
  exact getattr_ok I1 ea c n l fun u' s2 I2 ru => ⟨v, H1, I2, ru, q⟩
theorem ps_fld (ha : PE X o ta) (hv : PE X value tv) (hs : swapsWith value (some (.Attribute o f pos')) pos.line X.env = pure false) : PS X (.Assign [.Attribute o f pos'] value pos) (sFld X.K ta tv f) := by
  intro pins s σ H D I h
  refine plainObj_wpAny_Assign_Attribute (thn (hv pins s σ H _ I h) fun u s1 hPat => ?_) hs
  obtain ⟨y, H1, I1, ry, q⟩ := hPat
  refine thn (ha pins s1 σ H1 _ I1 q) fun ov s2 hPat => ?_
  obtain ⟨x, H2, I2, rx, a, C, dx, fs, ex, ea, c, n, l, q2⟩ := hPat
  subst ex
  obtain rfl : ov = Value.ref a := rx
  exact setattr_ok I2 ea c n l ry fun s3 I3 => ⟨σ, _, I3, q2⟩

end

/-! ### isinstance -/
section
variable {X : Cx} {pins : List (Addr × Obj)} {σ : St} {H : Hp} {s : Shared} {A : Around} {E : Value → Shared → Prop} {Q : Value → Shared → Prop} {c : Value} {b : Bool}
/-- the type of a value, as the fragment's deciders take it; for an instance its class -/
inductive TyOf (K : PySem.W.Frag) (H : Hp) : V → Value → Prop where
  | non : TyOf K H .non (.type "NoneType")
  | bl (x : Bool) : TyOf K H (.bl x) (.type "bool")
  | int (i : Int) : TyOf K H (.int i) (.type "int")
  | str (x : Str) : TyOf K H (.str x) (.type "str")
  | flt (x : UInt64) : TyOf K H (.flt x) (.type "float")
  | lst {a : Addr} {xs : List V} (e : H a = some (.lst xs)) : TyOf K H (.ref a) (.type "list")
  | frz {a : Addr} {o : Obj} {xs : List V} (e : H a = some (.frz o (.lst xs))) : TyOf K H (.ref a) (.type "list")
  | tup {a : Addr} {xs : List V} (e : H a = some (.tup xs)) : TyOf K H (.ref a) (.type "tuple")
  | dK {a : Addr} {kvs : List (Key × V)} (e : H a = some (.dK kvs)) : TyOf K H (.ref a) (.type "dict")
  | dT {a : Addr} {kvs : List (List Key × V)} (e : H a = some (.dT kvs)) : TyOf K H (.ref a) (.type "dict")
  | ins {a C dx : Addr} {fs : List (Str × V)} (e : H a = some (.ins C dx fs)) (cl : Cls K C) (ha : PySem.W.findIn K (.ref C) "__class__" = some (some (.builtin "object.__class__")))
      (hn : PySem.W.specialIn K (.builtin "object.__class__") "__get__" = some (some (.builtin "getset_descriptor.__get__"))) (htk : PySem.W.takesIn K (.builtin "object.__class__") = some true)
      (hm : PySem.W.mroIn K C (.type "object") = some true) : TyOf K H (.ref a) (.ref C)
end
end L2

namespace L2
open PySem PySem.Spec PyProof.Rows

/-! ### room -/
structure Room (k : Nat) (A : Around) : Prop where
  hd : A.handled = none
  dp : A.depth + 3 * k + 5 < recursionLimit
  un : A.units + 16 * k + 200 < cLine
theorem Room.mono {j k : Nat} {A : Around} (r : Room k A) (h : j ≤ k) : Room j A := ⟨r.hd, by have := r.dp; omega, by have := r.un; omega⟩
theorem Room.deeper {k : Nat} {A : Around} (r : Room (k + 1) A) (env : Env) : Room k (A.deeper env) :=
  ⟨r.hd, by have := r.dp; show A.depth + 1 + 3 * k + 5 < _; omega, by have := r.un; show A.units + 3 + 16 * k + 200 < _; omega⟩
theorem make_depth {A : Around} {C : Addr} {us : List Value} {kw : List (Str × Value)} : (A.under (.builtin "type.__call__" ⟨.ref C :: us, kw⟩)).depth = A.depth + 1 := by
  first | rfl | simp [Around.under, Code.weight, Code.isCreation, Code.isGuard, Code.isCaller, Code.frames, Code.isFrame, guardIds]
theorem make_units {A : Around} {C : Addr} {us : List Value} {kw : List (Str × Value)} : (A.under (.builtin "type.__call__" ⟨.ref C :: us, kw⟩)).units = A.units + 1 := by
  first | rfl | simp [Around.under, Code.cUnits, Code.frames, Code.isFrame]
theorem Room.make {k : Nat} {A : Around} (r : Room (k + 1) A) (C : Addr) (us : List Value) (kw : List (Str × Value)) : Room k (A.under (.builtin "type.__call__" ⟨.ref C :: us, kw⟩)) :=
  ⟨r.hd, by have := r.dp; rw [make_depth]; omega, by have := r.un; rw [make_units]; omega⟩
theorem Room.depth {k : Nat} {A : Around} (r : Room k A) : A.depth < recursionLimit := by have := r.dp; omega

/-! ### argument lists and displays -/
noncomputable def tNil : TA := fun _ H Q => Q [] H
noncomputable def tCons (ta : TE) (tr : TA) : TA := fun σ H Q => ta σ H fun x H1 => tr σ H1 fun xs H2 => Q (x :: xs) H2
section
variable {X : Cx} {e : Expr} {es : List Expr} {te : TE} {t : TA} {pos : Pos}
theorem pa_nil : PA X [] tNil := fun _ _ _ _ H Q I h => Calls.spliced_nil ⟨[], H, I, .nil, h⟩
theorem pa_cons (ha : PE X e te) (hr : PA X es t) (hs : starEach (e :: es) X.env = (false, eval e X.env) :: starEach es X.env := by rfl) : PA X (e :: es) (tCons te t) := by
  intro pos pins s σ H Q I h
  rw [hs]
  show wpAny _ _ (spliced ((false, eval e X.env) :: backTo pos (starEach es X.env))) _ _ s
  refine Calls.spliced_cons (thn (ha pins s σ H _ I h) fun u s1 hPat => ?_)
  obtain ⟨x, H1, I1, r1, q1⟩ := hPat
  refine thn (hr pos pins s1 σ H1 _ I1 q1) fun us s2 hPat => ?_
  obtain ⟨xs, H2, I2, r2, q2⟩ := hPat
  exact ⟨x :: xs, H2, I2, .cons r1 r2, q2⟩

/-- a tuple, a list of written items -/
noncomputable def tTup (t : TA) : TE := fun σ H Q => t σ H fun xs H1 => xs.length ≤ sizeLine ∧ ∀ p, H1 p = none → Q (.ref p) (upd H1 p (.tup xs))
noncomputable def tLst (t : TA) : TE := fun σ H Q => t σ H fun xs H1 => xs.length ≤ sizeLine ∧ ∀ p, H1 p = none → Q (.ref p) (upd H1 p (.lst xs))
theorem pe_tup {x1} (h : PA X es t) : PE X (.Tuple es x1 pos) (tTup t) := by
  intro pins s σ H Q I hq
  refine wpAny_Tuple_spliced (thn (h pos pins s σ H _ I hq) fun us s1 hPat => ?_)
  obtain ⟨xs, H1, I1, r, z, q⟩ := hPat
  refine ⟨by rw [← r.length]; exact z, ?_⟩
  have hf : H1 s1.heap.objs.size = none := I1.hok.fresh (Nat.le_refl _)
  refine ⟨.ref s1.heap.objs.size, upd H1 s1.heap.objs.size (.tup xs), I1.laid (t' := s1.toks) (fun b u e => Heap.get?_push_of_some _ e) (Nat.le_refl _) ?_, rfl, q _ hf⟩
  exact ⟨z, us, r, ⟨_, Heap.get?_push_size _ rfl, rfl, _, rfl⟩⟩
theorem pe_lst (h : PA X es t) : PE X (.List es pos) (tLst t) := by
  intro pins s σ H Q I hq
  refine wpAny_List_spliced (thn (h pos pins s σ H _ I hq) fun us s1 hPat => ?_)
  obtain ⟨xs, H1, I1, r, z, q⟩ := hPat
  refine ⟨by rw [← r.length]; exact z, ?_⟩
  have hf : H1 s1.heap.objs.size = none := I1.hok.fresh (Nat.le_refl _)
  refine ⟨.ref s1.heap.objs.size, upd H1 s1.heap.objs.size (.lst xs), I1.laid (t' := s1.toks) (fun b u e => Heap.get?_push_of_some _ e) (Nat.le_refl _) ?_, rfl, q _ hf⟩
  exact ⟨z, us, 0, r, Heap.get?_push_size _ rfl⟩
end

/-! ### what a def promises -/
/-- a def's promise: the bound arguments in the parameters' order, the heap, the wanted end, the wanted exception -/
noncomputable abbrev Sp := List V → Hp → VK → XK → Prop
/-- how an exception lies behind a call (file 08 gives it): the callers' frames, abstract heap and state ahead of the call, the wish, the exception, the state -/
noncomputable abbrev CXT := List Env → Hp → Shared → XK → Value → Shared → Prop

/-- the state at a call -/
structure Env0 (P : Program) (w : World) (K : PySem.W.Frag) (mg : Str → Option Value) (base : Heap) (A : Around) (outer : List Env) (s : Shared) (H : Hp) : Prop where
  frames : A.frames = some outer
  mod : Mod K mg base
  bs : ∀ b o, base.get? b = some o → s.heap.get? b = some o ∧ H b = none
  bsz : base.objs.size ≤ s.heap.objs.size
  funs : s.heap.FunFrames base outer
  frf : ∀ b ∈ frs outer, H b = none
  hok : HOk P w H s.heap
  bare : AllBare s.gens
/-- a call's end -/
noncomputable def CE (outer : List Env) (P : Program) (w : World) (H : Hp) (s : Shared) (Q : VK) (u : Value) (s' : Shared) : Prop :=
  ∃ v H', s'.os = s.os ∧ AllBare s'.gens ∧ Un (frs outer) [] H H' s.heap s'.heap ∧ HOk P w H' s'.heap ∧ RelV v u ∧ Q v H'
noncomputable def CR (CX : CXT) (outer : List Env) (P : Program) (w : World) (H : Hp) (s : Shared) (Q : VK) (E : XK) (r : Result) (s' : Shared) : Prop :=
  match r with
  | .ok (.ret u) => CE outer P w H s Q u s'
  | .ok _ => False
  | .error e => CX outer H s E e s'
structure FnOk (P : Program) (w : World) (K : PySem.W.Frag) (mg : Str → Option Value) (base : Heap) (CX : CXT) (k : Nat) (f : Addr) (fd : FuncData) (ps : List Str) (sp : Sp) : Prop where
  len : ∀ vs H Q E, sp vs H Q E → vs.length = ps.length
  run : ∀ (A : Around) (outer : List Env) (s : Shared) (H : Hp) (args : Args) (us : List Value) (vs : List V) (Q : VK) (E : XK), Room k A → Env0 P w K mg base A outer s H → BindsTo s fd args (ps.zip us) → Vals vs us → sp vs H Q E →
    codeAny (model P w) A (.call (.ref f) args) (CR CX outer P w H s Q E) s
theorem FnOk.mono {P : Program} {w : World} {K : PySem.W.Frag} {mg : Str → Option Value} {base : Heap} {CX : CXT} {j k : Nat} {f : Addr} {fd : FuncData} {ps : List Str} {sp : Sp} (F : FnOk P w K mg base CX j f fd ps sp) (h : j ≤ k) :
    FnOk P w K mg base CX k f fd ps sp := ⟨F.len, fun A outer s H args us vs Q E hr => F.run A outer s H args us vs Q E (hr.mono h)⟩

theorem Env0.make {P : Program} {w : World} {K : PySem.W.Frag} {mg : Str → Option Value} {base : Heap} {A : Around} {outer : List Env} {s : Shared} {H : Hp} (e : Env0 P w K mg base A outer s H) (C : Addr) (us : List Value) (kw : List (Str × Value)) :
    Env0 P w K mg base (A.under (.builtin "type.__call__" ⟨.ref C :: us, kw⟩)) outer s H := ⟨by first | exact e.frames | (simpa [Around.under, Code.envs, Code.isFrame, pushEnvs] using e.frames), e.mod, e.bs, e.bsz, e.funs, e.frf, e.hok, e.bare⟩

section
variable {X : Cx} {pins : List (Addr × Obj)} {σ : St} {H : Hp} {s s' : Shared}
/-- from a body: what a callee wants -/
theorem Inv.env0 (I : Inv X pins σ H s) : Env0 X.prog X.w X.K X.mg X.base X.A X.stack s H :=
  ⟨I.ok.frames, I.ok.mod, I.bs, Nat.le_trans I.ok.bsz I.sz, I.stack, I.stkFree, I.hok, I.bare⟩
/-- behind a call -/
theorem Inv.after {Q : VK} {u : Value} (I : Inv X pins σ H s) (h : CE X.stack X.prog X.w H s Q u s') : EP X pins σ Q u s' := by
  obtain ⟨v, H', os, bare, un, hok, r, q⟩ := h
  obtain ⟨hh, g, d, t, os'⟩ := s'
  obtain rfl : os' = s.os := os
  exact ⟨v, H', I.call (h' := hh) (g' := g) (d' := d) (t' := t) (ch := []) un hok bare (fun b z => absurd z (by simp)), r, q⟩
end

/-! ### calls -/
/-- f(..): the written arguments, then the defaults dvs; E: what is wanted of an exception -/
noncomputable def tCall (sp : Sp) (dvs : List V) (E : XK) (t : TA) : TE := fun σ H Q => t σ H fun vs H1 => sp (vs ++ dvs) H1 Q E
/-- o.m(..) of an instance of the class at C -/
noncomputable def tMeth (C : Addr) (m : Str) (sp : Sp) (dvs : List V) (E : XK) (ta : TE) (t : TA) : TE := fun σ H Q => ta σ H fun x H1 => ∃ a dx fs, x = .ref a ∧ H1 a = some (.ins C dx fs) ∧ fs.lookup m = none ∧
  t σ H1 fun vs H2 => sp (x :: (vs ++ dvs)) H2 Q E
/-- C(..): a new instance and its dict, then __init__ -/
noncomputable def tMake (C : Addr) (sp : Sp) (dvs : List V) (E : XK) (t : TA) : TE := fun σ H Q => t σ H fun vs H1 => ∀ x dx, H1 x = none → H1 dx = none → dx ≠ x →
  sp (.ref x :: (vs ++ dvs)) (upd (upd H1 dx (.own x)) x (.ins C dx [])) (fun v H2 => v = .non ∧ Q (.ref x) H2) E

/-- how the parameters are bound: us the positional arguments, kw the keywords' values by name, ds the defaults that fill up -/
noncomputable def Binds (K : PySem.W.Frag) (fd : FuncData) (ps : List Str) (ds : List Value) : Prop :=
  ∀ (s : Shared) (us : List Value), K.In s.heap → (us ++ ds).length = ps.length → BindsTo s fd ⟨us, []⟩ (ps.zip (us ++ ds))
/-- every parameter is given -/
theorem Binds.all {K : PySem.W.Frag} {fd : FuncData} {ps : List Str} (h : ∀ us : List Value, us.length = ps.length → bindArgs fd ⟨us, []⟩ = pure (ps.zip us)) : Binds K fd ps [] := fun s us _ hl => by
  rw [List.append_nil] at hl ⊢
  exact .of_eq (h us hl)

/-- an exception of a callee reaches what this body wants of exceptions -/
noncomputable def Passes (CX : CXT) (X : Cx) (E : XK) : Prop := ∀ (pins : List (Addr × Obj)) (σ : St) (H : Hp) (s : Shared) (e : Value) (s' : Shared), Inv X pins σ H s → CX X.stack H s E e s' → X.xe e s'

section
variable {X : Cx} {CX : CXT} {k : Nat} {f C : Addr} {fd : FuncData} {ps : List Str} {sp : Sp} {dvs : List V} {ds : List Value} {E : XK} {x m : Str} {p pos apos : Pos} {e o : Expr} {es : List Expr} {ta : TE} {t : TA}

/-- the callee runs -/
theorem run_fn {pins : List (Addr × Obj)} {σ : St} {H : Hp} {s : Shared} {Q : VK} {us : List Value} {vs : List V} (F : FnOk X.prog X.w X.K X.mg X.base CX k f fd ps sp) (hr : Room k X.A) (hb : Binds X.K fd ps ds) (hd : Vals dvs ds) (hx : Passes CX X E)
    (I : Inv X pins σ H s) (r : Vals vs us) (h : sp (vs ++ dvs) H Q E) : wpAny (model X.prog X.w) X.A (call (.ref f) us) (EP X pins σ Q) X.xe s := by
  have r2 : Vals (vs ++ dvs) (us ++ ds) := r.append hd
  have hl : (us ++ ds).length = ps.length := by rw [← r2.length]; exact F.len _ _ _ _ h
  refine wpAny_call (codeAny_mono (F.run X.A X.stack s H ⟨us, []⟩ (us ++ ds) (vs ++ dvs) Q E hr I.env0 (hb s us I.kIn hl) r2 h) fun r s' hq => ?_)
  cases r with
  | error e => exact hx pins σ H s e s' I hq
  | ok fl =>
    cases fl with
    | ret u => exact I.after hq
    | next => exact False.elim hq
    | brk => exact False.elim hq
    | cont => exact False.elim hq

theorem pe_call (F : FnOk X.prog X.w X.K X.mg X.base CX k f fd ps sp) (hr : Room k X.A) (hg : Gl X x) (hm : X.mg x = some (.ref f)) (hk : PySem.W.keepIn X.K (.ref f) = true) (hb : Binds X.K fd ps ds) (hd : Vals dvs ds) (hx : Passes CX X E)
    (ha : PA X (e :: es) t) (hdb : (x == ("__debug__" : Str)) = false := by decide) (he : starEach (e :: es) X.env = (false, eval e X.env) :: starEach es X.env := by rfl) (hpl : (backTo pos (starEach es X.env)).any (·.1) = false := by rfl) :
    PE X (.Call (.Name x p) (e :: es) [] pos) (tCall sp dvs E t) := by
  intro pins s σ H Q I h
  refine wpAny_Call_Name_kw (ld_glob I hg hm ?_ hdb)
  refine PySem.W.callWith_K (h₀ := X.base) I.ok.mod.kin hk (thn (ha pos pins s σ H _ I h) fun us s1 hPat => ?_) he hpl
  obtain ⟨vs, H1, I1, r, q⟩ := hPat
  refine ⟨I1.kIn, ?_⟩
  exact run_fn F hr hb hd hx I1 r q

/-- o.m(e, ..) -/
theorem pe_meth {pl : Sem Bool} (he : PE X o ta) (c : Cls X.K C) (hm : Meth X.K C m f) (F : FnOk X.prog X.w X.K X.mg X.base CX k f fd ps sp) (hr : Room k X.A) (hb : Binds X.K fd ps ds) (hd : Vals dvs ds) (hx : Passes CX X E) (ha : PA X (e :: es) t)
    (hst : starEach (e :: es) X.env = (false, eval e X.env) :: starEach es X.env := by rfl) (hpl : (backTo pos (starEach es X.env)).any (·.1) = false := by rfl)
    (ht : eval (.Call (.Attribute o m apos) (e :: es) [] pos) X.env = (do
      let ov ← eval o X.env
      standAt apos.atName
      let (f, first) ← holding [ov] (getMethod ov m pl)
      callWith pos f first (backTo pos (starEach (e :: es) X.env)) (backToKw pos (keywordEach [] X.env))) := by rfl) :
    PE X (.Call (.Attribute o m apos) (e :: es) [] pos) (tMeth C m sp dvs E ta t) := by
  intro pins s σ H Q I h
  refine PySem.W.methodCall_KW (pl := pl) (thn (he pins s σ H _ I h) fun u s1 hPat => ?_) ht
  obtain ⟨x, H1, I1, rx, a, dx, fs, ex, ea, l, q⟩ := hPat
  subst ex
  obtain rfl : u = Value.ref a := rx
  refine getmeth_ok I1 ea c hm l ?_
  refine PySem.W.callWith_K (first := [.ref a]) (h₀ := X.base) I.ok.mod.kin hm.kp (thn (ha pos pins s1 σ H1 _ I1 q) fun us s2 hPat => ?_) hst hpl
  obtain ⟨vs, H2, I2, r, q2⟩ := hPat
  refine ⟨I2.kIn, ?_⟩
  exact run_fn (us := .ref a :: us) (vs := .ref a :: vs) F hr hb hd hx I2 (.cons rfl r) q2

/-- what a class must have to be made -/
structure Mk (K : PySem.W.Frag) (C f : Addr) : Prop where
  makes : PySem.W.makesIn K C = true
  init : PySem.W.findIn K (.ref C) "__init__" = some (some (.ref f))
  fn : PySem.W.isFn K (.ref f) = true
  kp : PySem.W.keepIn K (.ref C) = true

theorem run_make {pins : List (Addr × Obj)} {σ : St} {H : Hp} {s : Shared} {Q : VK} {us : List Value} {vs : List V} (M : Mk X.K C f) (F : FnOk X.prog X.w X.K X.mg X.base CX k f fd ps sp) (hr : Room (k + 1) X.A) (hb : Binds X.K fd ps ds) (hd : Vals dvs ds)
    (hx : Passes CX X E) (I : Inv X pins σ H s) (r : Vals vs us)
    (h : ∀ x dx, H x = none → H dx = none → dx ≠ x → sp (.ref x :: (vs ++ dvs)) (upd (upd H dx (.own x)) x (.ins C dx [])) (fun v H2 => v = .non ∧ Q (.ref x) H2) E) :
    wpAny (model X.prog X.w) X.A (call (.ref C) us) (EP X pins σ Q) X.xe s := by
  have hq := h (s.heap.objs.size + 1) s.heap.objs.size (I.hok.fresh (Nat.le_succ _)) (I.hok.fresh (Nat.le_refl _)) (Nat.ne_of_lt (Nat.lt_succ_self _))
  have I2 := Inv.made (C := C) I
  have r2 : Vals (V.ref (s.heap.objs.size + 1) :: (vs ++ dvs)) (Value.ref (s.heap.objs.size + 1) :: (us ++ ds)) := .cons rfl (r.append hd)
  have hl : (Value.ref (s.heap.objs.size + 1) :: us ++ ds).length = ps.length := by
    have e := r2.length
    rw [F.len _ _ _ _ hq] at e
    exact e.symm
  refine wpAny_call (make_map (f := f) I.kIn M.makes M.init (beq_iff_eq.mp M.fn) (codeAny_mono (F.run _ X.stack _ _ ⟨Value.ref (s.heap.objs.size + 1) :: us, []⟩ (Value.ref (s.heap.objs.size + 1) :: (us ++ ds)) _ _ E (hr.make C us [])
    (I2.env0.make C us []) (hb _ (Value.ref (s.heap.objs.size + 1) :: us) I2.kIn hl) r2 hq) fun r s' hq' => ?_))
  cases r with
  | error e => exact hx pins σ _ _ e s' I2 hq'
  | ok fl =>
    cases fl with
    | ret u =>
      obtain ⟨v, H', I3, rv, ev, q3⟩ := I2.after hq'
      subst ev
      exact ⟨rv, ⟨V.ref (s.heap.objs.size + 1), H', I3, rfl, q3⟩⟩
    | next => exact False.elim hq'
    | brk => exact False.elim hq'
    | cont => exact False.elim hq'
theorem pe_make (M : Mk X.K C f) (F : FnOk X.prog X.w X.K X.mg X.base CX k f fd ps sp) (hr : Room (k + 1) X.A) (hg : Gl X x) (hm : X.mg x = some (.ref C)) (hb : Binds X.K fd ps ds) (hd : Vals dvs ds) (hx : Passes CX X E)
    (ha : PA X (e :: es) t) (hdb : (x == ("__debug__" : Str)) = false := by decide) (he : starEach (e :: es) X.env = (false, eval e X.env) :: starEach es X.env := by rfl) (hpl : (backTo pos (starEach es X.env)).any (·.1) = false := by rfl) :
    PE X (.Call (.Name x p) (e :: es) [] pos) (tMake C sp dvs E t) := by
  intro pins s σ H Q I h
  refine wpAny_Call_Name_kw (ld_glob I hg hm ?_ hdb)
  refine PySem.W.callWith_K (h₀ := X.base) I.ok.mod.kin M.kp (thn (ha pos pins s σ H _ I h) fun us s1 hPat => ?_) he hpl
  obtain ⟨vs, H1, I1, r, q⟩ := hPat
  refine ⟨I1.kIn, ?_⟩
  exact run_make M F hr hb hd hx I1 r q
theorem pe_make0 (M : Mk X.K C f) (F : FnOk X.prog X.w X.K X.mg X.base CX k f fd ps sp) (hr : Room (k + 1) X.A) (hg : Gl X x) (hm : X.mg x = some (.ref C)) (hb : Binds X.K fd ps ds) (hd : Vals dvs ds) (hx : Passes CX X E)
    (hdb : (x == ("__debug__" : Str)) = false := by decide) : PE X (.Call (.Name x p) [] [] pos) (tMake C sp dvs E tNil) := by
  intro pins s σ H Q I h
  refine wpAny_Call_Name_kw (ld_glob I hg hm ?_ hdb)
  exact PySem.W.callWith_K0 I.kIn M.kp (run_make (us := []) M F hr hb hd hx I .nil h)
end

/-! ### keywords -/
section
variable {X : Cx} {CX : CXT} {k : Nat} {f C : Addr} {fd : FuncData} {ps ks : List Str} {sp : Sp} {E : XK} {x m : Str} {p pos apos kpos : Pos} {e o : Expr} {es : List Expr} {kws : List Keyword} {te ta : TE} {t tk : TA} {nm : Option Str}

/-- how a call with keywords binds: g puts the positional values us and the keywords' values ws (names ks) in the parameters' order, defaults among them -/
structure KBinds (K : PySem.W.Frag) (fd : FuncData) (ps ks : List Str) (g : List Value → List Value → List Value) (gV : List V → List V → List V) : Prop where
  to : ∀ (s : Shared) (us ws : List Value), K.In s.heap → (g us ws).length = ps.length → BindsTo s fd ⟨us, ks.zip ws⟩ (ps.zip (g us ws))
  rel : ∀ {vs : List V} {us : List Value} {zs : List V} {ws : List Value}, Vals vs us → Vals zs ws → Vals (gV vs zs) (g us ws)
variable {g : List Value → List Value → List Value} {gV : List V → List V → List V}
end

/-! ### a def's body keeps its promise -/
/-- names: the parameters first -/
structure FnScope (N P : List Str) (sc : Scope) : Prop where
  kind : sc.kind = .function
  co : sc.isCoroutine = false
  gen : sc.isGenerator = false
  nd : N.Nodup
  pre : N.take P.length = P
  par : ∀ x ∈ P, sc.names.lookup x = some .local ∨ sc.names.lookup x = some .cell
  nofree : ∀ y ∈ sc.names, y.2 ≠ .free

theorem bindL_out {kindOf : Str → Option NameKind} {x : Str} : ∀ {binds : List (Str × Value)} {m : Str → Option Value}, (∀ v, (x, v) ∉ binds) → bindL kindOf binds m x = m x
  | [], _, _ => rfl
  | (n, v) :: r, m, h => by
    unfold bindL
    rw [bindL_out fun w hw => h w (List.mem_cons_of_mem _ hw)]
    split
    · have : x ≠ n := by rintro rfl; exact h v List.mem_cons_self
      simp [this]
    · rfl
theorem bindC_out {kindOf : Str → Option NameKind} {x : Str} : ∀ {binds : List (Str × Value)} {m : Str → Option Value}, (∀ v, (x, v) ∉ binds) → bindC kindOf binds m x = m x
  | [], _, _ => rfl
  | (n, v) :: r, m, h => by
    unfold bindC
    rw [bindC_out fun w hw => h w (List.mem_cons_of_mem _ hw)]
    split
    · rfl
    · have : x ≠ n := by rintro rfl; exact h v List.mem_cons_self
      simp [this]
theorem bindL_get {kindOf : Str → Option NameKind} {x : Str} {v : Value} : ∀ {P : List Str} {vs : List Value} {i : Nat} {m : Str → Option Value}, P.Nodup → P[i]? = some x → vs[i]? = some v → kindOf x = some .local →
    bindL kindOf (P.zip vs) m x = some v
  | [], _, _, _, _, h, _, _ => by simp at h
  | _ :: _, [], _, _, _, _, h, _ => by simp at h
  | p :: P, w :: vs, 0, m, nd, h1, h2, hk => by
    simp at h1 h2; subst h1; subst h2
    show bindL kindOf ((p, w) :: P.zip vs) m p = _
    unfold bindL
    rw [bindL_out fun v hv => (List.nodup_cons.mp nd).1 (List.of_mem_zip hv).1, if_pos hk]
    simp
  | p :: P, w :: vs, i + 1, m, nd, h1, h2, hk => by
    show bindL kindOf ((p, w) :: P.zip vs) m x = _
    unfold bindL
    exact bindL_get (i := i) (List.nodup_cons.mp nd).2 (by simpa using h1) (by simpa using h2) hk
theorem bindC_get {kindOf : Str → Option NameKind} {x : Str} {v : Value} : ∀ {P : List Str} {vs : List Value} {i : Nat} {m : Str → Option Value}, P.Nodup → P[i]? = some x → vs[i]? = some v → kindOf x ≠ some .local →
    bindC kindOf (P.zip vs) m x = some v
  | [], _, _, _, _, h, _, _ => by simp at h
  | _ :: _, [], _, _, _, _, h, _ => by simp at h
  | p :: P, w :: vs, 0, m, nd, h1, h2, hk => by
    simp at h1 h2; subst h1; subst h2
    show bindC kindOf ((p, w) :: P.zip vs) m p = _
    unfold bindC
    rw [bindC_out fun v hv => (List.nodup_cons.mp nd).1 (List.of_mem_zip hv).1, if_neg hk]
    simp
  | p :: P, w :: vs, i + 1, m, nd, h1, h2, hk => by
    show bindC kindOf ((p, w) :: P.zip vs) m x = _
    unfold bindC
    exact bindC_get (i := i) (List.nodup_cons.mp nd).2 (by simpa using h1) (by simpa using h2) hk

/-- the names' values at the entry -/
noncomputable def start (N : List Str) (vs : List V) : St := vs.map some ++ List.replicate (N.length - vs.length) none

/-- the context of a def's body, at its entry; an exception leaves the frame, then lies as CX says -/
noncomputable def cxOf (CX : CXT) (P : Program) (w : World) (K : PySem.W.Frag) (mg : Str → Option Value) (base : Heap) (N : List Str) (qual : Str) (scope : Scope) (f : Addr) (cd : Value) (A : Around) (outer : List Env) (s : Shared) (H : Hp) (E : XK) : Cx where
  prog := P
  w := w
  K := K
  mg := mg
  base := base
  A := A.deeper (envOfC qual scope s.heap.objs.size f cd)
  N := N
  s_0 := s
  H_0 := H
  env := envOfC qual scope s.heap.objs.size f cd
  outer := outer
  stack := envOfC qual scope s.heap.objs.size f cd :: outer
  ex := []
  calm := true
  fn := fun _ => true
  pn := []
  xe := fun e s' => wpAny (model P w) (A.deeper (envOfC qual scope s.heap.objs.size f cd)) (leaving (envOfC qual scope s.heap.objs.size f cd) e) (fun _ s'' => CX outer H s E e s'') (fun e' s'' => CX outer H s E e' s'') s'

theorem cell_has {sc : Scope} {n : Nat} {x : Str} (h : sc.names.lookup x = some .cell) : ∃ c, (cellsFrom n sc.names []).lookup x = some c := by
  have q := PySem.W.cellsFrom_some sc.names n [] (.inl h)
  exact Option.isSome_iff_exists.mp q

theorem inv_start {CX : CXT} {P : Program} {w : World} {K : PySem.W.Frag} {mg : Str → Option Value} {base : Heap} {N ps : List Str} {qual : Str} {scope : Scope} {f : Addr} {cd : Value} {A : Around} {outer : List Env} {s s1 : Shared} {H : Hp} {E : XK} {us : List Value} {vs : List V}
    (S : FnScope N ps scope) (hd : A.handled = none) (e0 : Env0 P w K mg base A outer s H) (hl : vs.length = ps.length) (r : Vals vs us)
    (x : InCallC s s.heap.objs.size (bindL (envOfC qual scope s.heap.objs.size f cd).kindOf (ps.zip us) fun _ => none) (cellsFrom (s.heap.objs.size + 1) scope.names []) (bindC (envOfC qual scope s.heap.objs.size f cd).kindOf (ps.zip us) fun _ => none) s1) :
    Inv (cxOf CX P w K mg base N qual scope f cd A outer s H E) [] (start N vs) H s1 := by
  have hpl : ps.length ≤ N.length := by have := congrArg List.length S.pre; rw [List.length_take] at this; omega
  obtain ⟨h1, tk, rfl, hk⟩ := x.done
  have noA : ∀ b : Addr, b ∉ (cxOf CX P w K mg base N qual scope f cd A outer s H E).ex := fun b z => absurd (show b ∈ ([] : List Addr) from z) (by simp)
  refine ⟨⟨e0.mod, S.kind, rfl, rfl, Nat.le_refl _, fun y z c h1 h2 => ?_, fun y hy => ?_, fun y c _ h => ?_, fun _ => hd, Around.frames_deeper e0.frames, .inr ⟨rfl, rfl⟩, fun b z => absurd z (noA b), e0.bs, e0.bsz, fun b _ _ => noA b, fun b z => absurd z (noA b), e0.funs, e0.frf⟩,
    rfl, e0.bare, Un.kept hk, ⟨_, x.toInCall.ns, fun i y v h1 h2 h3 => ?_⟩, fun y c h => ⟨_, x.cell y c h⟩, e0.hok.fresh (Nat.le_refl _), fun y c h => ?_, fun p hp => absurd (show p ∈ ([] : List (Addr × Obj)) from hp) (by simp), e0.hok.kept hk, ?_⟩
  · exact name_of_addr x.apart (PySem.mem_of_lookup h1) (PySem.mem_of_lookup h2)
  · have hy : scope.names.lookup y = some .cell ∨ scope.names.lookup y = some .free := hy
    rcases hy with hy | hy
    · exact cell_has hy
    · exact absurd rfl (S.nofree _ (PySem.mem_of_lookup hy))
  · exact Nat.le_of_lt (x.above y c (PySem.mem_of_lookup h))
  · have hi : i < vs.length := by
      unfold start at h2
      by_cases hi : i < vs.length
      · exact hi
      · rw [List.getElem?_append_right (by simpa using hi)] at h2
        rw [List.getElem?_replicate] at h2
        split at h2 <;> cases h2
    have ha : vs[i]? = some v := by
      unfold start at h2
      rw [List.getElem?_append_left (by simpa using hi), List.getElem?_map] at h2
      cases e : vs[i]? with
      | none => rw [e] at h2; cases h2
      | some a => rw [e] at h2; cases h2; rfl
    obtain ⟨u, hu, rv⟩ := r.get ha
    have hp : ps[i]? = some y := by
      rw [← S.pre, List.getElem?_take_of_lt (by omega)]; exact h1
    have ndP : ps.Nodup := by rw [← S.pre]; exact S.nd.sublist (List.take_sublist _ _)
    refine ⟨u, rv, ?_⟩
    rcases S.par y (List.mem_of_getElem? hp) with k | k
    · exact .inl ⟨k, bindL_get ndP hp hu k⟩
    · obtain ⟨c, e⟩ := cell_has (n := s.heap.objs.size + 1) k
      refine .inr ⟨.inl k, c, e, ?_⟩
      have q := x.cell y c e
      rw [bindC_get ndP hp hu (by show scope.names.lookup y ≠ _; rw [k]; decide)] at q
      exact q
  · exact e0.hok.fresh (Nat.le_of_lt (x.above y c (PySem.mem_of_lookup h)))
  · unfold start
    show _ = N.length
    rw [List.length_append, List.length_map, List.length_replicate]
    omega

/-- THE RULE: a def (or a method) of the text, by its body. The body's reading t is chosen for each entry; it is run at the parameters' values -/
theorem fn_of {CX : CXT} {P : Program} {w : World} {K : PySem.W.Frag} {mg : Str → Option Value} {base : Heap} {k : Nat} {f : Addr} {name qual : Str} {params : Arguments} {body : List Stmt} {scope : Scope} {dV kV doc pm cdv ct oc : Value} {an od : Option Addr}
    {osl : Array (Option Value)} {N ps : List Str} {sp : Sp} (lk : K.lookup f = some ⟨oc, od, .func (PySem.W.fnOf name qual params body scope dV kV doc pm an cdv ct), osl⟩) (hcd : PySem.W.codeIn K cdv qual = true) (S : FnScope N ps scope)
    (len : ∀ vs H Q E, sp vs H Q E → vs.length = ps.length)
    (hbody : ∀ (A : Around) (outer : List Env) (s : Shared) (H : Hp) (vs : List V) (Q : VK) (E : XK), Room k (A.deeper (envOfC qual scope s.heap.objs.size f cdv)) → sp vs H Q E →
      ∃ t, PSs (cxOf CX P w K mg base N qual scope f cdv A outer s H E) body t ∧ t { nx := fun _ H' => Q .non H', rt := Q } (start N vs) H) :
    FnOk P w K mg base CX (k + 1) f (PySem.W.fnOf name qual params body scope dV kV doc pm an cdv ct) ps sp := by
  refine ⟨len, fun A outer s H args us vs Q E hr e0 hb r hsp => ?_⟩
  have hl := len _ _ _ _ hsp
  have KX : K.In s.heap := e0.mod.kin.keeps fun b o e => (e0.bs b o e).1
  have lim : s.heap.NoLimit := e0.mod.nolimit.keeps fun b o e => (e0.bs b o e).1
  have hkind : ∀ y ∈ ps.zip us, scope.names.lookup y.1 = some .local ∨ (scope.names.lookup y.1 = some .cell ∧ ((cellsFrom (s.heap.objs.size + 1) scope.names []).lookup y.1).isSome = true) := fun ⟨n, v⟩ hy => by
    rcases S.par n (List.of_mem_zip hy).1 with q | q
    · exact .inl q
    · exact .inr ⟨q, PySem.W.cellsFrom_some _ _ _ (.inl q)⟩
  refine codeAny_call_function hr.depth (KX _ _ lk) rfl S.co S.gen rfl (PySem.W.codeRec_of KX hcd) (hb _ _ _ _ ?_)
  refine wpAny_newFunctionEnv_cells S.kind hkind fun env he s1 x => ?_
  subst he
  refine ⟨lim.keeps x.toInCall.keep, codeAny_func ?_⟩
  obtain ⟨t, ht, hq⟩ := hbody A outer s H vs Q E (hr.deeper _) hsp
  have I : Inv (cxOf CX P w K mg base N qual scope f cdv A outer s H E) [] (start N vs) H s1 := inv_start S hr.hd e0 hl r x
  refine wpAny_mono (ht [] s1 (start N vs) H _ I hq) (fun fl s' hs => ?_) fun e s' hs => hs
  have fin : ∀ {σ' : St} {H' : Hp} {v : V} {u : Value}, Inv (cxOf CX P w K mg base N qual scope f cdv A outer s H E) [] σ' H' s' → RelV v u → Q v H' → CE outer P w H s Q u s' :=
    fun {σ' H' v u} J rv q => ⟨v, H', J.os, J.bare, J.base, J.hok, rv, q⟩
  cases fl with
  | ret u =>
    obtain ⟨v, σ', H', J, rv, q⟩ := hs
    exact fin J rv q
  | next =>
    obtain ⟨σ', H', J, q⟩ := hs
    exact fin (v := V.non) (u := Value.none) J rfl q
  | brk =>
    obtain ⟨_, _, _, q⟩ := hs
    exact False.elim q
  | cont =>
    obtain ⟨_, _, _, q⟩ := hs
    exact False.elim q
end L2

namespace L2
open PySem PySem.Spec PyProof.Rows
section
variable {X : Cx} {x : Str} {p pos : Pos} {e : Expr} {es : List Expr} {t : TA} {id T : String} {r : List V → Hp → VK → Prop}

noncomputable def tCB (r : List V → Hp → VK → Prop) (t : TA) : TE := fun σ H Q => t σ H fun vs H1 => r vs H1 Q
/-- f(e, ..), f a built-in function -/
theorem pe_callB (hc : CallR X (.builtin id) r) (hg : Gl X x) (hm : X.mg x = none) (hv : bootBuiltins x = some (.builtin id)) (ha : PA X (e :: es) t) (hn : x ≠ "__name__" := by decide) (hdb : (x == ("__debug__" : Str)) = false := by decide)
    (he : starEach (e :: es) X.env = (false, eval e X.env) :: starEach es X.env := by rfl) (hpl : (backTo pos (starEach es X.env)).any (·.1) = false := by rfl) : PE X (.Call (.Name x p) (e :: es) [] pos) (tCB r t) := by
  intro pins s σ H Q I h
  refine wpAny_Call_Name_kw (ld_blt I hg hm hv ?_ hn hdb)
  refine PyProof.Rows.callWith_builtin1 (thn (ha pos pins s σ H _ I h) fun us s1 hPat => ?_) he hpl
  obtain ⟨vs, H1, I1, r1, q1⟩ := hPat
  exact hc pins s1 σ H1 vs us Q I1 r1 q1
end
end L2

namespace HT
open PySem PyProof.Rows

section
open PySem.SeqAt
open PySem.AutoSeq1 (wpAny_loadPart')
open PySem.MeetsSeq PySem.MeetsSeq2 PySem.MeetsSeq3

end

section
variable {prog : Program} {w : World} {A : Around} {E : Value → Shared → Prop} {s : Shared}

/-! ### t[a:b], not the whole -/
/-- a slice's bound as a place among n (d where it is left out) -/
noncomputable def sIx (n d : Nat) : Option Int → Nat
  | none => d
  | some v => if v < 0 then (v + (n : Int)).toNat else min v.toNat n
theorem sIx_nat (n d k : Nat) : sIx n d (some (k : Int)) = min k n := by
  show (if (k : Int) < 0 then ((k : Int) + (n : Int)).toNat else min (k : Int).toNat n) = min k n
  rw [if_neg (by omega), Int.toNat_natCast]

end
end HT

namespace L2
open PySem PySem.Spec PyProof.Rows

/-! ### the parts of a slice -/
noncomputable abbrev TO := St → Hp → (Option Int → Hp → Prop) → Prop
/-- a slice's part (left out, or an int) -/
noncomputable def PO (X : Cx) (e : Option Expr) (t : TO) : Prop :=
  ∀ (pins : List (Addr × Obj)) (s : Shared) (σ : St) (H : Hp) (Q : Option Int → Hp → Prop), Inv X pins σ H s → t σ H Q →
    wpAny (model X.prog X.w) X.A (evalPart e X.env) (fun u s' => ∃ o H', Inv X pins σ H' s' ∧ IsPart u o ∧ Q o H') X.xe s
noncomputable def tPart (t : TE) : TO := fun σ H Q => t σ H fun x H1 => ∃ i, x = .int i ∧ Q (some i) H1

section
variable {X : Cx} {e : Expr} {te : TE} {lo hi : Option Expr} {tl th : TO} {pos p2 : Pos}

theorem po_some (h : PE X e te) : PO X (some e) (tPart te) := by
  intro pins s σ H Q I hw
  rw [evalPart_some]
  refine thn (h pins s σ H _ I hw) fun u s1 hPat => ?_
  obtain ⟨x, H1, I1, r1, q1⟩ := hPat
  obtain ⟨i, rfl, q⟩ := q1
  obtain ⟨t, rfl⟩ := r1
  exact ⟨some i, H1, I1, .int i t, q⟩

/-- what a slice of a value is, by values: the slice object stands at sl -/
noncomputable def SlR (X : Cx) (r : V → Option Int → Option Int → Hp → VK → Prop) : Prop :=
  ∀ (pins : List (Addr × Obj)) (s : Shared) (σ : St) (H : Hp) (x : V) (v vl vu : Value) (lo hi : Option Int) (sl : Addr) (Q : VK), Inv X pins σ H s → RelV x v → s.heap.IsSliceOf sl vl vu .none → IsPart vl lo → IsPart vu hi → r x lo hi H Q →
    ∃ T id, typeLookup (.type T) "__getitem__" = pure (some (.builtin id)) ∧ s.TypeIs v T ∧ wpAny (model X.prog X.w) X.A (getItem v (.ref sl)) (EP X pins σ Q) X.xe s
noncomputable def tSl (r : V → Option Int → Option Int → Hp → VK → Prop) (te : TE) (tl th : TO) : TE := fun σ H Q => te σ H fun x H1 => tl σ H1 fun l H2 => th σ H2 fun u H3 => r x l u H3 Q
/-- a[lo:hi], any a -/
theorem pe_slice {r : V → Option Int → Option Int → Hp → VK → Prop} (hr : SlR X r) (he : PE X e te) (hl : PO X lo tl) (hu : PO X hi th) : PE X (.Subscript e (.Slice lo hi none p2) pos) (tSl r te tl th) := by
  intro pins s σ H Q I h
  refine Subscript_ (thn (he pins s σ H _ I h) fun v s1 hPat => ?_)
  obtain ⟨x, H1, I1, r1, q1⟩ := hPat
  refine wpAny_Slice (thn (hl pins s1 σ H1 _ I1 q1) fun vl s2 hPat => ?_)
  obtain ⟨l, H2, I2, pl, q2⟩ := hPat
  refine thn (hu pins s2 σ H2 _ I2 q2) fun vu s3 hPat => ?_
  obtain ⟨u, H3, I3, pu, q3⟩ := hPat
  rw [evalPart_none]
  refine wpAny_pure ?_
  have I4 : Inv X pins σ H3 { s3 with heap := s3.heap.push { cls := .type "slice", data := .fields #[vl, vu, .none] } } := I3.kept (t' := s3.toks) fun b ob q => Heap.get?_push_of_some _ q
  obtain ⟨T, id, hT, ht, hg⟩ := hr pins { s3 with heap := s3.heap.push { cls := .type "slice", data := .fields #[vl, vu, .none] } } σ H3 x v vl vu l u s3.heap.objs.size Q I4 r1 (Heap.IsSliceOf.new ..) pl pu q3
  show wpAny (model X.prog X.w) X.A (subscriptTail e (.Slice lo hi none p2) v (.ref s3.heap.objs.size)) (EP X pins σ Q) X.xe { s3 with heap := s3.heap.push { cls := .type "slice", data := .fields #[vl, vu, .none] } }
  exact tail_any (ops := [.ref s3.heap.objs.size, v]) ht hT hg (by with_unfolding_all rfl)

/-- the items of xs[lo:hi] -/
noncomputable def cutV (xs : List V) (lo hi : Option Int) : List V := (xs.drop (HT.sIx xs.length 0 lo)).take (HT.sIx xs.length xs.length hi - HT.sIx xs.length 0 lo)
theorem cutV_length (xs : List V) (lo hi : Option Int) : (cutV xs lo hi).length ≤ xs.length := by
  unfold cutV
  rw [List.length_take, List.length_drop]
  omega

/-! ### t < u, t + u -/
end
end L2

namespace L2
open PySem PySem.Spec PyProof.Rows

/-! ### places -/
/-- the place that an index of any sign means -/
noncomputable def ixN (n : Nat) (i : Int) : Option Nat := if 0 ≤ i then (if i < n then some i.toNat else none) else if -(n : Int) ≤ i then some (i + n).toNat else none
noncomputable def atI {α : Type} (xs : List α) (i : Int) : Option α := (ixN xs.length i).bind fun j => xs[j]?
theorem ixN_seq {n : Nat} {i : Int} {j : Nat} (h : ixN n i = some j) : seqIndex? i n = some j ∧ j < n ∧ -(n : Int) ≤ i ∧ i < n := by
  unfold ixN at h
  by_cases h0 : 0 ≤ i
  · rw [if_pos h0] at h
    by_cases h1 : i < n
    · rw [if_pos h1] at h
      have e : i.toNat = j := Option.some.inj h
      exact ⟨by rw [seqIndex_of h0 h1, e], by omega, by omega, h1⟩
    · rw [if_neg h1] at h; cases h
  · rw [if_neg h0] at h
    by_cases h1 : -(n : Int) ≤ i
    · rw [if_pos h1] at h
      have e : (i + n).toNat = j := Option.some.inj h
      exact ⟨by rw [seqIndex_neg (by omega) h1, e], by omega, h1, by omega⟩
    · rw [if_neg h1] at h; cases h
theorem atI_get {α : Type} {xs : List α} {i : Int} {v : α} (h : atI xs i = some v) : ∃ j, seqIndex? i xs.length = some j ∧ xs[j]? = some v ∧ j < xs.length ∧ -(xs.length : Int) ≤ i ∧ i < xs.length := by
  unfold atI at h
  cases e : ixN xs.length i with
  | none => rw [e] at h; cases h
  | some j =>
    rw [e] at h
    obtain ⟨h1, h2, h3, h4⟩ := ixN_seq e
    exact ⟨j, h1, h, h2, h3, h4⟩
theorem atI_nat {α : Type} {xs : List α} {j : Nat} {v : α} (h : xs[j]? = some v) : atI xs (j : Int) = some v := by
  have hj : j < xs.length := (List.getElem?_eq_some_iff.mp h).1
  have e : ixN xs.length (j : Int) = some j := by
    unfold ixN
    rw [if_pos (by omega), if_pos (by omega)]; simp
  unfold atI; rw [e]; exact h

/-! ### what may be subscripted -/
/-- what stands as an index of a plain subscript -/
noncomputable def PlainIx (b : Expr) : Prop := ∀ o i, subscripted b false o i = operate [o, i] (getItem o i)
/-- a subscript by values -/
noncomputable def IxR (X : Cx) (r : R2) : Prop :=
  ∀ (value slice : Expr) (pins : List (Addr × Obj)) (s : Shared) (σ : St) (H : Hp) (x y : V) (v u : Value) (Q : VK), Inv X pins σ H s → RelV x v → RelV y u → r x y H Q →
    subscripted slice false v u = operate [v, u] (getItem v u) → wpAny (model X.prog X.w) X.A (subscriptTail value slice v u) (EP X pins σ Q) X.xe s
/-- a call of a builtin's method by values: the receiver, the arguments -/
noncomputable def MtR (X : Cx) (id : String) (r : V → List V → Hp → VK → Prop) : Prop :=
  ∀ (pins : List (Addr × Obj)) (s : Shared) (σ : St) (H : Hp) (x : V) (xs : List V) (v : Value) (us : List Value) (Q : VK), Inv X pins σ H s → RelV x v → Vals xs us → r x xs H Q →
    wpAny (model X.prog X.w) X.A (call (.builtin id) (v :: us)) (EP X pins σ Q) X.xe s
section
variable {X : Cx} {a b : Expr} {ta tb : TE} {pos : Pos}
/-- a[b] -/
theorem pe_ix {r : R2} (hr : IxR X r) (ha : PE X a ta) (hb : PE X b tb) (hs : PlainIx b) : PE X (.Subscript a b pos) (tOp r ta tb) := by
  intro pins s σ H Q I h
  exact Subscript_ (binT ha hb I h fun v u s2 x y H2 I2 rx ry q => hr a b pins s2 σ H2 x y v u Q I2 rx ry q (hs _ _))

noncomputable def rIxL (K : PySem.W.Frag) : R2 := fun x y H Q => ∃ p xs i v, x = .ref p ∧ y = .int i ∧ SqL K H p xs ∧ atI xs i = some v ∧ Q v H
noncomputable def rIxT (K : PySem.W.Frag) : R2 := fun x y H Q => ∃ p xs i v, x = .ref p ∧ y = .int i ∧ SqT K H p xs ∧ atI xs i = some v ∧ Q v H
theorem ix_list : IxR X (rIxL X.K) := by
  intro value slice pins s σ H x y v u Q I rx ry h hs
  obtain ⟨p, xs, i, z, rfl, rfl, hq, he, q⟩ := h
  cases rx
  obtain ⟨t, rfl⟩ := ry
  obtain ⟨its, r, pl, hz⟩ := I.list hq
  obtain ⟨j, h1, h2, h3, h4, h5⟩ := atI_get he
  obtain ⟨w, ew, rw'⟩ := r.get h2
  have hl := r.length
  have hn := line63
  have fin : EP X pins σ Q w s := ⟨z, H, I, rw', q⟩
  by_cases h0 : 0 ≤ i
  · have hj : i.toNat = j := by
      rw [seqIndex_of h0 h5] at h1
      exact Option.some.inj h1
    exact item_listR pl.isList h0 (by omega) (by rw [hj]; simpa using ew) fin hs
  · have hj : (i + (its.toArray.size : Int)).toNat = j := by
      rw [seqIndex_neg (by omega) h4] at h1
      rw [List.size_toArray, ← hl]
      exact Option.some.inj h1
    exact subscriptTail_builtinR (x := w) pl.isList.typeIs slot_list_getitem.lookup
      (wpAny_getItem_list_neg (Q := fun r s' => r = w ∧ EP X pins σ Q r s') pl.isList (by omega) (by rw [List.size_toArray] <;> omega) (by omega) (by rw [hj]; simpa using ew) ⟨rfl, fin⟩) hs
theorem ix_tup : IxR X (rIxT X.K) := by
  intro value slice pins s σ H x y v u Q I rx ry h hs
  obtain ⟨p, xs, i, z, rfl, rfl, hq, he, q⟩ := h
  cases rx
  obtain ⟨t, rfl⟩ := ry
  obtain ⟨its, r, pl, hz⟩ := I.tuple hq
  obtain ⟨j, h1, h2, h3, h4, h5⟩ := atI_get he
  obtain ⟨w, ew, rw'⟩ := r.get h2
  have hl := r.length
  have hn := line63
  have fin : EP X pins σ Q w s := ⟨z, H, I, rw', q⟩
  exact subscriptTail_builtinR (x := w) pl.typeIs slot_tuple_getitem.lookup
    (getItem_tuple (j := j) (Q := fun r s' => r = w ∧ EP X pins σ Q r s') pl (by omega) (by omega) (by rw [List.size_toArray, ← hl]; exact h1) (by simpa using ew) ⟨rfl, fin⟩) hs

/-! ### xs[i] = v, any sign -/
/-- the list's object behind a store -/
theorem mapSeq_set (its : List Value) (n j : Nat) (u : Value) : Obj.mapSeq (·.setIfInBounds j u) { cls := .type "list", data := .seq its.toArray n } = { cls := .type "list", data := .seq (its.set j u).toArray n } := by
  simp [Obj.mapSeq]
theorem Inv.lst {pins : List (Addr × Obj)} {σ : St} {H : Hp} {s : Shared} {p : Addr} {xs : List V} (I : Inv X pins σ H s) (h : H p = some (.lst xs)) :
    ∃ (its : List Value) (n : Nat), Vals xs its ∧ s.heap.get? p = some { cls := .type "list", data := .seq its.toArray n } ∧ xs.length ≤ sizeLine := by
  obtain ⟨z, its, n, r, e⟩ := I.hok p _ h
  exact ⟨its, n, r, e, z⟩
/-- the list at p is written by an update of its object -/
theorem Inv.lstUpd {pins : List (Addr × Obj)} {σ : St} {H : Hp} {s : Shared} {p : Addr} {xs ys : List V} {its its' : List Value} {n n' : Nat} {f : Obj → Obj} (I : Inv X pins σ H s) (h : H p = some (.lst xs))
    (ho : s.heap.get? p = some { cls := .type "list", data := .seq its.toArray n }) (hf : f { cls := .type "list", data := .seq its.toArray n } = { cls := .type "list", data := .seq its'.toArray n' }) (r : Vals ys its') (hz : ys.length ≤ sizeLine) (t : Nat) :
    Inv X pins σ (upd H p (.lst ys)) { s with heap := s.heap.update p f, toks := t } := by
  have e : (s.heap.update p f).get? p = some { cls := .type "list", data := .seq its'.toArray n' } := by
    rw [Heap.get?_update_self f ho (by rw [hf] <;> rfl), hf]
  refine I.write (x := p) (e := p) (by rw [h]; trivial) (.inl rfl) (fun b u hb q => (Heap.get?_update_other _ _ (Ne.symm hb)).trans q) ⟨_, e⟩ ?_
  exact ⟨hz, its', n', r, e⟩
noncomputable def rSetL : V → V → V → Hp → (Hp → Prop) → Prop := fun o i v H Q => ∃ p xs k j, o = .ref p ∧ i = .int k ∧ H p = some (.lst xs) ∧ ixN xs.length k = some j ∧ Q (upd H p (.lst (xs.set j v)))
theorem set_list : PSet X rSetL := by
  intro pins s σ H o i v ov iv u Q I ro ri rv h
  obtain ⟨p, xs, k, j, rfl, rfl, hp, hj, q⟩ := h
  cases ro
  obtain ⟨t, rfl⟩ := ri
  obtain ⟨its, n, r, ho, hz⟩ := I.lst hp
  obtain ⟨h1, h2, h3, h4⟩ := ixN_seq hj
  have hl := r.length
  have hn := line63
  have I' : Inv X pins σ (upd H p (.lst (xs.set j v))) { s with heap := s.heap.update p (Obj.mapSeq (·.setIfInBounds j u)) } :=
    I.lstUpd hp ho (mapSeq_set its n j u) (r.set rv j) (by rw [List.length_set]; exact hz) s.toks
  by_cases h0 : 0 ≤ k
  · have hk : k.toNat = j := by
      rw [seqIndex_of h0 h4] at h1
      exact Option.some.inj h1
    exact PySem.W.ki_setAt ho h0 (by omega) (by rw [List.size_toArray, ← hl]; exact h4) (by rw [hk]; exact ⟨_, I', q⟩)
  · have hk : (k + (its.toArray.size : Int)).toNat = j := by
      rw [seqIndex_neg (by omega) h3] at h1
      rw [List.size_toArray, ← hl]
      exact Option.some.inj h1
    exact PySem.W.ki_setBack ho (by omega) (by rw [List.size_toArray, ← hl]; exact h3) (by omega) (by rw [hk]; exact ⟨_, I', q⟩)

/-! ### slices -/
theorem slice_bounds (lo hi : Option Int) (n : Nat) : (sliceBounds lo hi none n).1 = ((HT.sIx n 0 lo : Nat) : Int) ∧ (sliceBounds lo hi none n).2.1 = ((HT.sIx n n hi : Nat) : Int) ∧ (sliceBounds lo hi none n).2.2 = 1 := by
  refine ⟨?_, ?_, rfl⟩
  · cases lo with
    | none => simp [sliceBounds, HT.sIx]
    | some i =>
      simp only [sliceBounds, HT.sIx, Option.getD_none, show (1 : Int) > 0 by decide, if_true]
      by_cases h : i < 0
      · simp only [h, if_true] <;> omega
      · simp only [h, if_false] <;> omega
  · cases hi with
    | none => simp [sliceBounds, HT.sIx]
    | some i =>
      simp only [sliceBounds, HT.sIx, Option.getD_none, show (1 : Int) > 0 by decide, if_true]
      by_cases h : i < 0
      · simp only [h, if_true] <;> omega
      · simp only [h, if_false] <;> omega
theorem slicePick_cut (its : List Value) (lo hi : Option Int) : slicePick its.toArray lo hi none = ((its.drop (HT.sIx its.length 0 lo)).take (HT.sIx its.length its.length hi - HT.sIx its.length 0 lo)).toArray := by
  obtain ⟨h1, h2, h3⟩ := slice_bounds lo hi its.toArray.size
  unfold slicePick
  rw [h1, h2, h3]
  simp only [sliceRange_one, pick_run, List.size_toArray] <;> rfl
/-- xs[lo:hi] of a list: a new list -/
noncomputable def rSlL (K : PySem.W.Frag) : V → Option Int → Option Int → Hp → VK → Prop := fun x lo hi H Q => ∃ a xs, x = .ref a ∧ SqL K H a xs ∧ ∀ p, H p = none → Q (.ref p) (upd H p (.lst (cutV xs lo hi)))
theorem sl_list : SlR X (rSlL X.K) := by
  intro pins s σ H x v vl vu lo hi sl Q I rx hs pl pu h
  obtain ⟨a, xs, rfl, hx, q⟩ := h
  cases rx
  obtain ⟨its, r, ht, hz⟩ := I.list hx
  have hlen := r.length
  refine ⟨"list", _, slot_list_getitem.lookup, ht.isList.typeIs, ?_⟩
  refine wpAny_getItem_list_slice ht.isList hs pl pu .none (by simp) ?_ (by rw [List.size_toArray] <;> omega)
  rw [slicePick_cut, ← hlen]
  refine ⟨.ref s.heap.objs.size, _, I.laid (t' := s.toks) (o := .lst (cutV xs lo hi)) (fun b ob q => Heap.get?_push_of_some _ q) (Nat.le_refl _) ?_, rfl, q _ (I.hok.fresh (Nat.le_refl _))⟩
  exact ⟨Nat.le_trans (cutV_length xs lo hi) hz, _, 0, (r.drop (HT.sIx xs.length 0 lo)).take (HT.sIx xs.length xs.length hi - HT.sIx xs.length 0 lo), Heap.get?_push_size _ rfl⟩

/-! ### in, not in: flat items -/
noncomputable def flatV : V → Bool
  | .non => true
  | .bl _ => true
  | .int _ => true
  | .str _ => true
  | _ => false
/-- == of flat values -/
noncomputable def eqV : V → V → Bool
  | .non, .non => true
  | .bl a, .bl b => a == b
  | .bl a, .int b => (if a then 1 else 0) == b
  | .int a, .bl b => a == (if b then 1 else 0)
  | .int a, .int b => a == b
  | .str a, .str b => a == b
  | _, _ => false
theorem eqAt_V {A : Around} {s : Shared} {y x : V} {u v : Value} (ry : RelV y u) (rx : RelV x v) (fy : flatV y = true) (fx : flatV x = true) : SeqAt.EqAt A s u v (eqV y x) := by
  cases y with
  | non =>
    cases ry
    cases x with
    | non => cases rx; exact SeqAt.EqAt.same _
    | bl b => cases rx; exact SeqAt.EqAt.none_bool b
    | int b => obtain ⟨t, rfl⟩ := rx; exact SeqAt.EqAt.none_int b t
    | str b => obtain ⟨t, rfl⟩ := rx; exact SeqAt.EqAt.none_str b t
    | _ => exact absurd (show false = true from fx) Bool.false_ne_true
  | bl a =>
    cases ry
    cases x with
    | non => cases rx; exact SeqAt.EqAt.bool_none a
    | bl b => cases rx; exact SeqAt.EqAt.bool_bool a b
    | int b => obtain ⟨t, rfl⟩ := rx; exact SeqAt.EqAt.bool_int a b t
    | str b => obtain ⟨t, rfl⟩ := rx; exact SeqAt.EqAt.bool_str a b t
    | _ => exact absurd (show false = true from fx) Bool.false_ne_true
  | int a =>
    obtain ⟨t', rfl⟩ := ry
    cases x with
    | non => cases rx; exact SeqAt.EqAt.int_none a t'
    | bl b => cases rx; exact SeqAt.EqAt.int_bool a t' b
    | int b => obtain ⟨t, rfl⟩ := rx; exact SeqAt.EqAt.int_int a t' b t
    | str b => obtain ⟨t, rfl⟩ := rx; exact SeqAt.EqAt.int_str a t' b t
    | _ => exact absurd (show false = true from fx) Bool.false_ne_true
  | str a =>
    obtain ⟨t', rfl⟩ := ry
    cases x with
    | non => cases rx; exact SeqAt.EqAt.str_none a t'
    | bl b => cases rx; exact SeqAt.EqAt.str_bool a t' b
    | int b => obtain ⟨t, rfl⟩ := rx; exact SeqAt.EqAt.str_int a t' b t
    | str b => obtain ⟨t, rfl⟩ := rx; exact SeqAt.EqAt.str_str a t' b t
    | _ => exact absurd (show false = true from fx) Bool.false_ne_true
  | _ => exact absurd (show false = true from fy) Bool.false_ne_true
/-- the items' answers, read off the values (a value's own answer does not lean on its token) -/
noncomputable def eqU (x : V) (u : Value) : Bool := match u with
  | .none => eqV .non x
  | .bool b => eqV (.bl b) x
  | .int i _ => eqV (.int i) x
  | .str z _ => eqV (.str z) x
  | _ => false
theorem eqU_of {x y : V} {u : Value} (r : RelV y u) (f : flatV y = true) : eqU x u = eqV y x := by
  cases y with
  | non => cases r; rfl
  | bl b => cases r; rfl
  | int i => obtain ⟨t, rfl⟩ := r; rfl
  | str z => obtain ⟨t, rfl⟩ := r; rfl
  | _ => exact absurd (show false = true from f) Bool.false_ne_true
theorem any_eqU {x : V} : ∀ {xs : List V} {us : List Value}, Vals xs us → xs.all flatV = true → us.any (eqU x) = xs.any fun y => eqV y x
  | _, _, .nil, _ => rfl
  | y :: xs, u :: us, .cons r t, f => by
    rw [List.all_cons, Bool.and_eq_true] at f
    rw [List.any_cons, List.any_cons, eqU_of r f.1, any_eqU t f.2]
theorem mem_eqAt {A : Around} {s : Shared} {x : V} {v : Value} (rx : RelV x v) (fx : flatV x = true) : ∀ {xs : List V} {us : List Value}, Vals xs us → xs.all flatV = true → ∀ u ∈ us, SeqAt.EqAt A s u v (eqU x u)
  | _, _, .nil, _ => fun u hu => by cases hu
  | y :: xs, u :: us, .cons r t, f => fun u' hu => by
    rw [List.all_cons, Bool.and_eq_true] at f
    rcases List.mem_cons.mp hu with rfl | hu
    · rw [eqU_of r f.1]; exact eqAt_V r rx f.1 fx
    · exact mem_eqAt rx fx t f.2 u' hu
noncomputable def inV (x : V) (xs : List V) : Bool := xs.any fun y => eqV y x
/-- x in a list or tuple of flat items -/
noncomputable def rIn (K : PySem.W.Frag) (neg : Bool) : R2 := fun x y H Q => ∃ p xs, y = .ref p ∧ (SqL K H p xs ∨ SqT K H p xs) ∧ flatV x = true ∧ xs.all flatV = true ∧ Q (.bl (if neg then !inV x xs else inV x xs)) H
theorem op_in_seq : OpR X (compareOp .In) (rIn X.K false) := by
  intro pins s σ H x y v u Q I rx ry h
  obtain ⟨p, xs, rfl, hq, fx, fs, q⟩ := h
  cases ry
  rcases hq with hq | hq
  · obtain ⟨its, r, pl, hz⟩ := I.list hq
    refine SeqAt.in_listAt (eqU x) pl.isList (fun w hw => mem_eqAt rx fx r fs w (by simpa using hw)) ⟨.bl _, H, I, rfl, ?_⟩
    rw [show its.toArray.any (eqU x) = its.any (eqU x) by simp, any_eqU r fs]
    exact q
  · obtain ⟨its, r, pl, hz⟩ := I.tuple hq
    refine SeqAt.in_tupleAt (eqU x) pl (fun w hw => mem_eqAt rx fx r fs w (by simpa using hw)) ⟨.bl _, H, I, rfl, ?_⟩
    rw [show its.toArray.any (eqU x) = its.any (eqU x) by simp, any_eqU r fs]
    exact q

/-! ### len, list(x), tuple(x) of any list or tuple that is read -/
theorem call_len_seq : CallR X (.builtin "len") (fun xs H Q => ∃ p ys, xs = [.ref p] ∧ (SqL X.K H p ys ∨ SqT X.K H p ys) ∧ Q (.int ys.length) H) := by
  intro pins s σ H xs us Q I r h
  obtain ⟨p, ys, rfl, hq, q⟩ := h
  obtain ⟨u, rfl, rx⟩ := vals1 r
  cases rx
  have hn := line63
  rcases hq with hq | hq
  · obtain ⟨its, r', pl, hz⟩ := I.list hq
    have hlen := r'.length
    exact Calls.call_len_list pl.isList (by simp only [List.size_toArray] <;> omega) ⟨.int ys.length, H, I.tok _, ⟨s.toks + 1, by rw [List.size_toArray, hlen]⟩, q⟩
  · obtain ⟨its, r', pl, hz⟩ := I.tuple hq
    have hlen := r'.length
    exact len_tuple pl (by simp only [List.size_toArray] <;> omega) ⟨.int ys.length, H, I.tok _, ⟨s.toks + 1, by rw [List.size_toArray, hlen]⟩, q⟩

/-! ### the call of a builtin's method: o.m(..) -/
/-- the value is of that builtin type -/
noncomputable def tyV (K : PySem.W.Frag) (T : String) (x : V) (H : Hp) : Prop := match x with
  | .str _ => T = "str"
  | .int _ => T = "int"
  | .ref p => (T = "list" ∧ ∃ xs, SqL K H p xs) ∨ (T = "tuple" ∧ ∃ o, K.lookup p = some o ∧ o.cls = .type "tuple" ∧ o.dict = none) ∨
      (T = "dict" ∧ ((∃ kvs, H p = some (.dK kvs)) ∨ ∃ kvs, H p = some (.dT kvs))) ∨ (T = "set" ∧ ∃ S n, H p = some (.set S n))
  | _ => False
theorem tyV_is {pins : List (Addr × Obj)} {σ : St} {H : Hp} {s : Shared} {T : String} {x : V} {v : Value} (I : Inv X pins σ H s) (r : RelV x v) (ty : tyV X.K T x H) :
    s.TypeIs v T ∧ ∀ a, v = .ref a → ∃ ob, s.heap.get? a = some ob ∧ ob.dict = none := by
  cases x with
  | str z =>
    obtain ⟨t, rfl⟩ := r
    cases (show T = "str" from ty)
    exact ⟨typeIs_str s z t, fun _ e => nomatch e⟩
  | int i =>
    obtain ⟨t, rfl⟩ := r
    cases (show T = "int" from ty)
    exact ⟨typeIs_int s i t, fun _ e => nomatch e⟩
  | ref p =>
    cases r
    rcases ty with ⟨rfl, xs, hq⟩ | ⟨rfl, o, hk, hc, hd⟩ | ⟨rfl, hk⟩ | ⟨rfl, S, n, hk⟩
    · obtain ⟨its, _, pl, _⟩ := I.list hq
      refine ⟨pl.isList.typeIs, fun a e => ?_⟩
      cases e
      obtain ⟨o, n, e, c, hd, _⟩ := pl
      exact ⟨o, e, hd⟩
    · refine ⟨⟨o, I.kIn p o hk, hc⟩, fun a e => ?_⟩
      cases e
      exact ⟨o, I.kIn _ o hk, hd⟩
    · have z : ∃ o, s.heap.get? p = some o ∧ o.ExactDict := by
        rcases hk with ⟨kvs, hk⟩ | ⟨kvs, hk⟩
        · obtain ⟨_, _, _, _, o, _, _, e, ex, _⟩ := I.hok p _ hk
          exact ⟨o, e, ex⟩
        · obtain ⟨_, _, _, _, o, _, _, e, ex, _⟩ := I.hok p _ hk
          exact ⟨o, e, ex⟩
      obtain ⟨o, e, ex⟩ := z
      refine ⟨⟨o, e, ex.1⟩, fun a e2 => ?_⟩
      cases e2
      exact ⟨o, e, ex.2.1⟩
    · obtain ⟨o, _, _, _, e, ex, _⟩ := I.hok p _ hk
      refine ⟨⟨o, e, ex.1⟩, fun a e2 => ?_⟩
      cases e2
      exact ⟨o, e, ex.2.1⟩
  | _ => exact False.elim ty
noncomputable def tBM (K : PySem.W.Frag) (T : String) (r : V → List V → Hp → VK → Prop) (to : TE) (t : TA) : TE := fun σ H Q => to σ H fun x H1 => tyV K T x H1 ∧ t σ H1 fun xs H2 => r x xs H2 Q
variable {o e : Expr} {es : List Expr} {to : TE} {t : TA} {name : Str} {apos cpos : Pos} {T id : String} {r : V → List V → Hp → VK → Prop}
theorem pe_bm (pa : PlainAttrs T) (slot : Slot T name id) (hty : typeOf (.builtin id) = pure (.type "method_descriptor")) (hm : MtR X id r) (ho : PE X o to) (ha : PA X (e :: es) t)
    (hbase : attributeBase o name X.env (eval o X.env) = eval o X.env := by rfl)
    (hfew : ((backTo cpos (starEach (e :: es) X.env)).all (fun x => !x.1) && (backToKw cpos (keywordEach [] X.env)).all (fun x => x.1.isSome)
      && decide ((e :: es).length + ([] : List Keyword).length + (if ([] : List Keyword).isEmpty then 0 else 1) < 30)) = true := by rfl)
    (hline : (apos.endLine == cpos.line) = true := by rfl) (hs : starEach (e :: es) X.env = (false, eval e X.env) :: starEach es X.env := by rfl) (hplain : (backTo cpos (starEach es X.env)).any (·.1) = false := by rfl) :
    PE X (.Call (.Attribute o name apos) (e :: es) [] cpos) (tBM X.K T r to t) := by
  intro pins s σ H Q I h
  refine wpAny_Call_method_late hbase hfew hline rfl (thn (ho pins s σ H _ I h) fun v s1 hPat => ?_)
  obtain ⟨x, H1, I1, r1, ty, q1⟩ := hPat
  obtain ⟨h1, h2⟩ := tyV_is I1 r1 ty
  refine ⟨T, id, pa, slot, hty, h1, h2, ?_⟩
  have hA := ha cpos pins s1 σ H1 _ I1 q1
  rw [hs] at hA ⊢
  refine Calls.callWith_builtin (by show (false || (backTo cpos (starEach es X.env)).any (·.1)) = false; rw [hplain] <;> rfl) (Calls.evalArgs_plain ?_)
  refine thn hA fun us s2 hPat => ?_
  obtain ⟨vs, H2, I2, r2, q2⟩ := hPat
  exact hm pins s2 σ H2 x vs v us Q I2 r1 r2 q2
/- xs.append(e), list.index on a module's tuple .. are MtR facts of 06m -/
end
end L2

namespace L2
open PySem PySem.Spec PyProof.Rows

noncomputable def MtM (X : Cx) (id : String) (r : V → List V → Hp → VK → Prop) : Prop :=
  ∀ (pins : List (Addr × Obj)) (s : Shared) (σ : St) (H : Hp) (x : V) (xs : List V) (v : Value) (us : List Value) (Q : VK), Inv X pins σ H s → RelV x v → Vals xs us → r x xs H Q →
    wpAny (model X.prog X.w) X.A (call (.builtin id) (v :: us)) (EP X pins σ Q) X.xe s

/-! ### lists of values -/
theorem Vals.one : ∀ {x : V} {us : List Value}, Vals [x] us → ∃ u, us = [u] ∧ RelV x u
  | _, _, .cons r .nil => ⟨_, rfl, r⟩
theorem Vals.eraseIdx : ∀ {xs : List V} {us : List Value} (i : Nat), Vals xs us → Vals (xs.eraseIdx i) (us.eraseIdx i)
  | _, _, _, .nil => .nil
  | _, _, 0, .cons _ t => t
  | _, _, i + 1, .cons r t => .cons r (Vals.eraseIdx i t)
theorem len_erase {α : Type} : ∀ (l : List α) (i : Nat), (l.eraseIdx i).length ≤ l.length
  | [], _ => Nat.le_refl _
  | _ :: _, 0 => Nat.le_succ _
  | _ :: r, i + 1 => Nat.succ_le_succ (len_erase r i)

section
variable {X : Cx} {pins : List (Addr × Obj)} {σ : St} {H : Hp} {s : Shared} {l b : Addr} {xs ys zs : List V}

/-! ### the two steps: a tracked list is rewritten, a new list is laid -/
theorem Inv.lset {its its' : List Value} {n : Nat} {f : Array Value → Array Value} {t' : Nat} (I : Inv X pins σ H s) (hH : H l = some (.lst xs))
    (e : s.heap.get? l = some { cls := .type "list", data := .seq its.toArray n }) (hf : f its.toArray = its'.toArray) (hv : Vals ys its') (hz : ys.length ≤ sizeLine) :
    Inv X pins σ (upd H l (.lst ys)) { s with heap := s.heap.update l (Obj.mapSeq f), toks := t' } := by
  have q := PySem.IsL.update e f
  rw [hf] at q
  refine I.write (x := l) (e := l) (by rw [hH]; exact trivial) (.inl rfl) (fun b' u hb hu => (Heap.get?_update_other s.heap (Obj.mapSeq f) (Ne.symm hb)).trans hu) ⟨_, q⟩ ?_
  exact ⟨hz, its', _, hv, q⟩
theorem Inv.lnew {its : List Value} {t' : Nat} (I : Inv X pins σ H s) (hv : Vals ys its) (hz : ys.length ≤ sizeLine) :
    Inv X pins σ (upd H s.heap.objs.size (.lst ys)) { s with heap := s.heap.push { cls := .type "list", data := .seq its.toArray }, toks := t' } :=
  I.laid (fun _ _ q => Heap.get?_push_of_some _ q) (Nat.le_refl _) ⟨hz, its, 0, hv, Heap.get?_push_size _ rfl⟩
theorem Inv.fresh (I : Inv X pins σ H s) : H s.heap.objs.size = none := I.hok.fresh (Nat.le_refl _)
theorem Inv.lstM (I : Inv X pins σ H s) (hH : H l = some (.lst xs)) : xs.length ≤ sizeLine ∧ ∃ (its : List Value) (n : Nat), Vals xs its ∧ xs.length = its.length ∧ s.heap.get? l = some { cls := .type "list", data := .seq its.toArray n } := by
  obtain ⟨z, its, n, r, e⟩ := I.hok l _ hH
  exact ⟨z, its, n, r, r.length, e⟩

theorem notLongL {n : Nat} (h : n ≤ sizeLine) : Builtin.List.listTooLong n = false := by
  unfold Builtin.List.listTooLong
  exact decide_eq_false (by omega)
end

section
variable {X : Cx}

/-! ### methods -/
noncomputable def rAppend : V → List V → Hp → VK → Prop := fun x vs H Q => ∃ l xs y, x = .ref l ∧ vs = [y] ∧ H l = some (.lst xs) ∧ xs.length < sizeLine ∧ Q .non (upd H l (.lst (xs ++ [y])))
theorem mt_append : MtM X "list.append" rAppend := by
  intro pins s σ H x vs v us Q I rx rv h
  obtain ⟨l, xs, y, rfl, rfl, hH, hz, q⟩ := h
  cases rx
  obtain ⟨u, rfl, ru⟩ := rv.one
  obtain ⟨z, its, n, r, hl, e⟩ := I.lstM hH
  refine call_meets F.slot_list_append ⟨_, e, rfl⟩ F.entry_list_append (F.args_list_append_2 _ _) (PySem.list_append l its.toArray n u (by rw [List.size_toArray]; omega)) ⟨e, ?_⟩
  refine ⟨.non, _, I.lset (its' := its ++ [u]) hH e (by simp) (r.append (.cons ru .nil)) ?_, rfl, q⟩
  rw [List.length_append, List.length_singleton]
  omega

noncomputable def rExtend : V → List V → Hp → VK → Prop := fun x vs H Q => ∃ l b xs zs, x = .ref l ∧ vs = [.ref b] ∧ H l = some (.lst xs) ∧ H b = some (.lst zs) ∧ xs.length + zs.length ≤ sizeLine ∧ Q .non (upd H l (.lst (xs ++ zs)))
theorem mt_extend : MtM X "list.extend" rExtend := by
  intro pins s σ H x vs v us Q I rx rv h
  obtain ⟨l, b, xs, zs, rfl, rfl, hH, hB, hz, q⟩ := h
  cases rx
  obtain ⟨u, rfl, ru⟩ := rv.one
  cases ru
  obtain ⟨z, its, n, r, hl, e⟩ := I.lstM hH
  obtain ⟨z2, its2, n2, r2, hl2, e2⟩ := I.lstM hB
  have hsz : its.toArray.size + its2.toArray.size ≤ sizeLine := by rw [List.size_toArray, List.size_toArray]; omega
  have hlong : ¬ (!its.toArray.isEmpty && Builtin.List.listTooLong (its.toArray.size + its2.toArray.size)) = true := by
    rw [notLongL hsz, Bool.and_false]
    exact Bool.false_ne_true
  refine call_meets F.slot_list_extend ⟨_, e, rfl⟩ F.entry_list_extend (F.args_list_extend_2 _ _)
    (AutoSeq1.list_extend_list_list_0 l its.toArray n b its2.toArray n2 hlong (by rw [List.size_toArray]; omega) (by omega)) ⟨e, e2, ?_⟩
  refine ⟨.non, _, I.lset (its' := its ++ its2) hH e (by simp) (r.append r2) ?_, rfl, q⟩
  rw [List.length_append]
  omega

noncomputable def rPopAt : V → List V → Hp → VK → Prop := fun x vs H Q => ∃ l xs i k y, x = .ref l ∧ vs = [.int i] ∧ H l = some (.lst xs) ∧ -(2 ^ 63) ≤ i ∧ i < 2 ^ 63 ∧ seqIndex? i xs.length = some k ∧ xs[k]? = some y ∧ Q y (upd H l (.lst (xs.eraseIdx k)))
theorem mt_popAt : MtM X "list.pop" rPopAt := by
  intro pins s σ H x vs v us Q I rx rv h
  obtain ⟨l, xs, i, k, y, rfl, rfl, hH, h1, h2, hk, hy, q⟩ := h
  cases rx
  obtain ⟨u, rfl, ru⟩ := rv.one
  obtain ⟨t, rfl⟩ := ru
  obtain ⟨z, its, n, r, hl, e⟩ := I.lstM hH
  obtain ⟨w, hw, rw'⟩ := r.get hy
  refine call_meets F.slot_list_pop ⟨_, e, rfl⟩ F.entry_list_pop (F.args_list_pop_2 _ _)
    (MeetsSeq.list_pop_at l its.toArray n i t k w (fitsIndex_both h1 h2) (by rw [List.size_toArray, ← hl]; exact hk) (by rw [← Array.getElem?_toList]; exact hw) (by rw [List.size_toArray]; omega)) ⟨e, ?_⟩
  refine ⟨y, _, I.lset (its' := its.eraseIdx k) hH e ?_ (r.eraseIdx k) ?_, rw', q⟩
  · show its.toArray.eraseIdxIfInBounds k = (its.eraseIdx k).toArray
    rw [List.eraseIdxIfInBounds_toArray]
  · have := len_erase xs k
    omega

/-! ### list + list, list += list, list * int -/
noncomputable def rCat : R2 := fun x y H Q => ∃ l b xs zs, x = .ref l ∧ y = .ref b ∧ H l = some (.lst xs) ∧ H b = some (.lst zs) ∧ xs.length + zs.length ≤ sizeLine ∧ ∀ p, H p = none → Q (.ref p) (upd H p (.lst (xs ++ zs)))
theorem op_cat : OpR X (binaryOp .Add) rCat := by
  intro pins s σ H x y v u Q I rx ry h
  obtain ⟨l, b, xs, zs, rfl, rfl, hH, hB, hz, q⟩ := h
  cases rx
  cases ry
  obtain ⟨z, its, n, r, hl, e⟩ := I.lstM hH
  obtain ⟨z2, its2, n2, r2, hl2, e2⟩ := I.lstM hB
  refine PySem.P.add_list e e2 ?_ (by rw [List.size_toArray, List.size_toArray]; omega)
  have ea : its.toArray ++ its2.toArray = (its ++ its2).toArray := by simp
  rw [ea]
  exact ⟨.ref _, _, I.lnew (t' := s.toks) (r.append r2) (by rw [List.length_append]; omega), rfl, q _ I.fresh⟩

/-! ### del xs[i] -/
end

/-! ### xs[a:b] = ys -/
section
variable {prog : Program} {w : World} {A : Around} {E : Value → Shared → Prop} {s : Shared}
set_option maxRecDepth 100000 in
end

section
variable {X : Cx}
end
end L2

namespace L2
open PySem PySem.Spec PyProof.Rows

theorem Vals.ints : ∀ {ns : List Int} {us : List Value}, Vals (ns.map V.int) us → IntsAre us ns
  | [], us, h => by
    rw [List.map_nil] at h
    cases h
    exact IntsAre.nil
  | n :: ns, us, h => by
    rw [List.map_cons] at h
    cases h with
    | cons r t =>
      obtain ⟨k, rfl⟩ := r
      exact IntsAre.cons n k (Vals.ints t)
theorem Vals.ref1 {a : Addr} {us : List Value} (r : Vals [V.ref a] us) : us = [Value.ref a] := by
  cases r with
  | cons r t =>
    cases t
    cases r
    rfl

/-! ### the library's walks over a list of ints, kept objects alone -/
section
variable {prog : Program} {w : World} {A : Around} {E : Value → Shared → Prop} {s : Shared} {l : Addr} {its : List Value} {ns : List Int} {Q : Value → Shared → Prop}
theorem sum_raw (hh : A.handled = none) (hl : s.heap.IsList l its.toArray) (hi : IntsAre its ns)
    (h : ∀ h' tk t', (∀ b o, s.heap.get? b = some o → h'.get? b = some o) → Q (.int ns.sum t') { s with heap := h', toks := tk }) : wpAny (model prog w) A (call (.builtin "sum") [.ref l]) Q E s := by
  obtain ⟨xs, e⟩ := hi.allInts.items
  have hn : numsOf (intItems xs).toList = ns := by rw [← e]; exact hi.numsOf
  rw [nums_intItems] at hn
  rw [e] at hl
  refine PySem.sum_intListG hh hl fun h' tk t' hk => ?_
  have := h h' tk t' hk
  rw [preSum_eq, List.take_of_length_le (by simp), hn]; exact this
theorem max_raw (hh : A.handled = none) (hl : s.heap.IsList l its.toArray) (hi : IntsAre its ns) (hne : 0 < ns.length)
    (h : ∀ h' tk M t', (∀ b o, s.heap.get? b = some o → h'.get? b = some o) → M ∈ ns → (∀ a, a ∈ ns → a ≤ M) → Q (.int M t') { s with heap := h', toks := tk }) : wpAny (model prog w) A (call (.builtin "max") [.ref l]) Q E s := by
  obtain ⟨xs, e⟩ := hi.allInts.items
  have hn : numsOf (intItems xs).toList = ns := by rw [← e]; exact hi.numsOf
  rw [nums_intItems] at hn
  subst hn
  rw [e] at hl
  have hsz : 0 < xs.size := by simpa using hne
  refine PySem.max_intList hh hl hsz fun v h' tk hv hk => ?_
  obtain ⟨t, rfl⟩ := intItems_at hv
  obtain ⟨h1, h2⟩ := argBest_gt (numAt xs) (xs.size - 1)
  refine h h' tk _ t hk ?_ fun a ha => ?_
  · rw [numAt_eq]; exact PySem.getD_mem (by rw [List.length_map, Array.length_toList]; omega)
  · obtain ⟨j, hj, rfl⟩ := mem_getD ha
    rw [List.length_map, Array.length_toList] at hj
    rw [← numAt_eq]; exact h2 j (by omega)
end

/-! ### the calls, by values (CallR of 03t; MtR of 06l) -/
section
variable {X : Cx}
/-- sum(xs) of a list of ints -/
noncomputable def rSum (K : PySem.W.Frag) : List V → Hp → VK → Prop := fun vs H Q => ∃ (a : Addr) (ns : List Int), vs = [V.ref a] ∧ SqL K H a (ns.map V.int) ∧ Q (.int ns.sum) H
/-- max(xs), min(xs) of a list of ints -/
noncomputable def rMax (K : PySem.W.Frag) : List V → Hp → VK → Prop := fun vs H Q => ∃ (a : Addr) (ns : List Int), vs = [V.ref a] ∧ SqL K H a (ns.map V.int) ∧ 0 < ns.length ∧ ∀ m, m ∈ ns → (∀ y, y ∈ ns → y ≤ m) → Q (.int m) H
theorem cr_sum (hc : X.calm = true) : CallR X (.builtin "sum") (rSum X.K) := by
  intro pins s σ H vs us Q I r h
  obtain ⟨a, ns, rfl, hs, q⟩ := h
  obtain ⟨its, rv, hl, _⟩ := I.list hs
  rw [Vals.ref1 r]
  exact sum_raw (I.ok.hd hc) hl.isList rv.ints fun h' tk t' hk => ⟨.int _, H, I.kept hk, ⟨_, rfl⟩, q⟩
theorem cr_max (hc : X.calm = true) : CallR X (.builtin "max") (rMax X.K) := by
  intro pins s σ H vs us Q I r h
  obtain ⟨a, ns, rfl, hs, hne, q⟩ := h
  obtain ⟨its, rv, hl, _⟩ := I.list hs
  rw [Vals.ref1 r]
  exact max_raw (I.ok.hd hc) hl.isList rv.ints hne fun h' tk m t' hk h1 h2 => ⟨.int _, H, I.kept hk, ⟨_, rfl⟩, q m h1 h2⟩

/-! sorted, sort (fewer than 64 items: the library's own bound) -/
end

/-! ### list.index, flat items -/
section
variable {X : Cx}
end

/-! ### type(x) of an own instance; is, is not of a module's class -/
section
variable {X : Cx}
end

/-! ### any(xs), all(xs) of a list of bools -/
section
variable {X : Cx}
end

/-! ### == and != of data at any depth: none, bools, ints, texts, lists, tuples -/
mutual
inductive Dp (K : PySem.W.Frag) (H : Hp) : V → PyData → Prop
  | non : Dp K H .non .none
  | bl (b : Bool) : Dp K H (.bl b) (.bool b)
  | int (i : Int) : Dp K H (.int i) (.int i)
  | str (x : Str) : Dp K H (.str x) (.str x)
  | lst {a : Addr} {xs : List V} {ds : List PyData} : SqL K H a xs → DpAll K H xs ds → Dp K H (.ref a) (.list ds)
  | tup {a : Addr} {xs : List V} {ds : List PyData} : SqT K H a xs → DpAll K H xs ds → Dp K H (.ref a) (.tuple ds)
inductive DpAll (K : PySem.W.Frag) (H : Hp) : List V → List PyData → Prop
  | nil : DpAll K H [] []
  | cons {v : V} {vs : List V} {d : PyData} {ds : List PyData} : Dp K H v d → DpAll K H vs ds → DpAll K H (v :: vs) (d :: ds)
end
section
variable {X : Cx} {pins : List (Addr × Obj)} {σ : St} {H : Hp} {s : Shared}
end
section
variable {X : Cx}
end
end L2

namespace L2
open PySem PySem.Spec PyProof.Rows
noncomputable abbrev CellAt (h : Heap) (c : Addr) (v : Option Value) : Prop := h.IsCell c v
noncomputable def relS (scope sc : Scope) : Scope :=
  { scope with names := scope.names.map fun (n, k) => if (k == .free && sc.kind == .function && sc.names.lookup n == some .cell) then (n, .cell) else (n, k) }

noncomputable def cloFrom (cells : List (Str × Addr)) : List (Str × NameKind) → List (Str × Addr) → List (Str × Addr)
  | [], acc => acc
  | (n, k) :: r, acc => if k == .free then cloFrom cells r ((n, (cells.lookup n).getD 0) :: acc) else cloFrom cells r acc

theorem closure_loop (env : Env) (f : Str × NameKind → List (Str × Addr) → Sem (ForInStep (List (Str × Addr))))
    (hf : ∀ n k c, f (n, k) c = if k == .free then (do let a ← cellOf env n; pure (.yield ((n, a) :: c))) else pure (.yield c)) :
    ∀ (names : List (Str × NameKind)) (acc : List (Str × Addr)), (∀ y ∈ names, y.2 = .free → ∃ c, env.cells.lookup y.1 = some c) → forIn names acc f = pure (cloFrom env.cells names acc)
  | [], acc, _ => by rw [List.forIn_nil]; rfl
  | (n, k) :: r, acc, h => by
    rw [List.forIn_cons, hf]
    have ih := fun acc => closure_loop env f hf r acc fun y hy => h y (List.mem_cons_of_mem _ hy)
    unfold cloFrom
    by_cases hk : (k == NameKind.free) = true
    · rw [if_pos hk, if_pos hk]
      obtain ⟨c, hc⟩ := h (n, k) List.mem_cons_self (by simpa using hk)
      have e : cellOf env n = pure c := by unfold cellOf; rw [hc]
      rw [e]
      have e2 : (env.cells.lookup n).getD 0 = c := by rw [hc]; rfl
      rw [e2]
      exact ih _
    · rw [if_neg hk, if_neg hk]
      exact ih _
theorem closure_ok {scope : Scope} {env : Env} (h : ∀ y ∈ scope.names, y.2 = .free → ∃ c, env.cells.lookup y.1 = some c) : closureFor scope env = pure (cloFrom env.cells scope.names []) := by
  simp only [closureFor]
  rw [closure_loop env _ (fun n k c => rfl) scope.names [] h]
  rfl

theorem mem_lookup {α : Type} : ∀ {l : List (Str × α)} {n : Str} {c : α}, (n, c) ∈ l → ∃ c', l.lookup n = some c'
  | (k, v) :: r, n, c, h => by
    rw [List.lookup_cons]
    cases hb : n == k with
    | true => exact ⟨_, rfl⟩
    | false =>
      rcases List.mem_cons.mp h with e | h
      · cases e; simp at hb
      · exact mem_lookup h

theorem cloFrom_mem {cells : List (Str × Addr)} : ∀ {names : List (Str × NameKind)} {acc : List (Str × Addr)} {n : Str} {c : Addr}, (n, c) ∈ cloFrom cells names acc → (n, c) ∈ acc ∨ ((n, .free) ∈ names ∧ c = (cells.lookup n).getD 0)
  | [], _, _, _, h => .inl h
  | (m, k) :: r, acc, n, c, h => by
    unfold cloFrom at h
    split at h
    · rename_i hk
      have hk : k = .free := by simpa using hk
      rcases cloFrom_mem h with h | ⟨h1, h2⟩
      · rcases List.mem_cons.mp h with e | h
        · cases e; exact .inr ⟨hk ▸ List.mem_cons_self, rfl⟩
        · exact .inl h
      · exact .inr ⟨List.mem_cons_of_mem _ h1, h2⟩
    · rcases cloFrom_mem h with h | ⟨h1, h2⟩
      · exact .inl h
      · exact .inr ⟨List.mem_cons_of_mem _ h1, h2⟩
theorem cloFrom_acc {cells : List (Str × Addr)} : ∀ {names : List (Str × NameKind)} {acc : List (Str × Addr)} {p : Str × Addr}, p ∈ acc → p ∈ cloFrom cells names acc
  | [], _, _, h => h
  | (m, k) :: r, acc, p, h => by
    unfold cloFrom
    split
    · exact cloFrom_acc (List.mem_cons_of_mem _ h)
    · exact cloFrom_acc h
theorem cloFrom_has {cells : List (Str × Addr)} : ∀ {names : List (Str × NameKind)} {acc : List (Str × Addr)} {n : Str}, (n, .free) ∈ names → (n, (cells.lookup n).getD 0) ∈ cloFrom cells names acc
  | (m, k) :: r, acc, n, h => by
    unfold cloFrom
    rcases List.mem_cons.mp h with e | h
    · cases e
      exact cloFrom_acc List.mem_cons_self
    · split
      · exact cloFrom_has h
      · exact cloFrom_has h

theorem cells_mem : ∀ {names : List (Str × NameKind)} {h : Heap} {acc : List (Str × Addr)} {x : Str} {c : Addr}, (x, c) ∈ cellsFrom h.objs.size names acc →
    (x, c) ∈ acc ∨ ((x, .cell) ∈ names ∧ h.objs.size ≤ c ∧ CellAt (pushCells h names) c none)
  | [], _, _, _, _, h => .inl h
  | (n, k) :: r, h, acc, x, c, hm => by
    unfold cellsFrom at hm
    unfold pushCells
    split at hm
    · rename_i hk
      rw [if_pos hk]
      have hk : k = .cell := by simpa using hk
      rw [← Heap.size_push h { cls := .type "cell", data := .cell none }] at hm
      rcases cells_mem hm with hm | ⟨h1, h2, h3⟩
      · rcases List.mem_cons.mp hm with e | hm
        · cases e
          exact .inr ⟨hk ▸ List.mem_cons_self, Nat.le_refl _, _, pushCells_keeps r _ _ _ (Heap.get?_push_size _ rfl), rfl⟩
        · exact .inl hm
      · rw [Heap.size_push] at h2
        exact .inr ⟨List.mem_cons_of_mem _ h1, Nat.le_of_succ_le h2, h3⟩
    · rename_i hk
      rw [if_neg hk]
      rcases cells_mem hm with hm | ⟨h1, h2, h3⟩
      · exact .inl hm
      · exact .inr ⟨List.mem_cons_of_mem _ h1, h2, h3⟩
theorem cells_acc : ∀ {names : List (Str × NameKind)} {n : Nat} {acc : List (Str × Addr)} {p : Str × Addr}, p ∈ acc → p ∈ cellsFrom n names acc
  | [], _, _, _, h => h
  | (m, k) :: r, n, acc, p, h => by
    unfold cellsFrom
    split
    · exact cells_acc (List.mem_cons_of_mem _ h)
    · exact cells_acc h
theorem cells_has : ∀ {names : List (Str × NameKind)} {n : Nat} {acc : List (Str × Addr)} {x : Str}, (x, .cell) ∈ names → ∃ c, (x, c) ∈ cellsFrom n names acc
  | (m, k) :: r, n, acc, x, h => by
    unfold cellsFrom
    rcases List.mem_cons.mp h with e | h
    · cases e
      exact ⟨n, cells_acc List.mem_cons_self⟩
    · split
      · exact cells_has h
      · exact cells_has h
theorem cells_inj : ∀ {names : List (Str × NameKind)} {h : Heap} {acc : List (Str × Addr)} {x y : Str} {c : Addr}, (∀ p ∈ acc, p.2 < h.objs.size) → (∀ x y c, (x, c) ∈ acc → (y, c) ∈ acc → x = y) →
    (x, c) ∈ cellsFrom h.objs.size names acc → (y, c) ∈ cellsFrom h.objs.size names acc → x = y
  | [], _, _, _, _, _, _, hi, h1, h2 => hi _ _ _ h1 h2
  | (n, k) :: r, h, acc, x, y, c, hl, hi, h1, h2 => by
    unfold cellsFrom at h1 h2
    split at h1
    · rename_i hk
      rw [if_pos hk] at h2
      rw [← Heap.size_push h { cls := .type "cell", data := .cell none }] at h1 h2
      refine cells_inj (h := h.push _) (fun p hp => ?_) (fun x y c a b => ?_) h1 h2
      · rw [Heap.size_push]
        rcases List.mem_cons.mp hp with rfl | hp
        · exact Nat.lt_succ_self _
        · exact Nat.lt_succ_of_lt (hl p hp)
      · rcases List.mem_cons.mp a with e | a <;> rcases List.mem_cons.mp b with e' | b
        · cases e; cases e'; rfl
        · cases e; exact absurd (hl _ b) (Nat.lt_irrefl _)
        · cases e'; exact absurd (hl _ a) (Nat.lt_irrefl _)
        · exact hi _ _ _ a b
    · rename_i hk
      rw [if_neg hk] at h2
      exact cells_inj hl hi h1 h2

theorem newEnv_comp {M : Model} {A : Around} {E : Value → Shared → Prop} {s : Shared} {scope : Scope} {globals : Addr} {closure : List (Str × Addr)} {qual : Str} {func : Option Addr} {code : Value} {around : Env} {builtins : Addr} {Q : Env → Shared → Prop}
    (h : Q (newEnv scope s.heap.objs.size globals (cellsFrom (s.heap.objs.size + 1) scope.names closure) qual func code (some around) builtins)
      { s with heap := pushCells (s.heap.push { cls := .type "dict", data := .dict #[] }) scope.names }) :
    wpAny M A (newFunctionEnv scope globals closure [] qual func code (some around) builtins) Q E s := by
  simp only [newFunctionEnv, Option.isSome_some, if_true]
  refine wpAny_bind (wpAny_alloc ?_)
  refine wpAny_bind (wpAny_layCells _ (fun n k c => rfl) scope.names closure _ _ ?_)
  rw [show ({ s with heap := s.heap.push { cls := .type "dict", data := .dict #[] } } : Shared).heap.objs.size = s.heap.objs.size + 1 from Heap.size_push ..]
  rw [List.forIn_nil]
  exact wpAny_bind (wpAny_pure (wpAny_pure h))

/-- every name of the written scope, in the scope that runs -/
theorem lookup_relS {sc : Scope} : ∀ {names : List (Str × NameKind)} {x : Str} {k : NameKind},
    (names.map fun (n, k) => if (k == NameKind.free && sc.kind == .function && sc.names.lookup n == some .cell) then (n, NameKind.cell) else (n, k)).lookup x = some k →
    ∃ k', names.lookup x = some k' ∧ (k = k' ∨ (k' = .free ∧ k = .cell))
  | [], _, _, h => by simp at h
  | (n, k₀) :: r, x, k, h => by
    have ih := @lookup_relS sc r x k
    have h' : List.lookup x ((if (k₀ == NameKind.free && sc.kind == .function && sc.names.lookup n == some .cell) = true then (n, NameKind.cell) else (n, k₀)) :: (r.map _)) = some k := h
    cases hx : x == n with
    | true =>
      simp only [List.lookup_cons, hx]
      by_cases hc : (k₀ == NameKind.free && sc.kind == .function && sc.names.lookup n == some .cell) = true
      · rw [if_pos hc] at h'
        simp only [List.lookup_cons, hx] at h'
        cases h'
        simp only [Bool.and_eq_true, beq_iff_eq] at hc
        exact ⟨k₀, rfl, .inr ⟨hc.1.1, rfl⟩⟩
      · rw [if_neg hc] at h'
        simp only [List.lookup_cons, hx] at h'
        cases h'
        exact ⟨_, rfl, .inl rfl⟩
    | false =>
      simp only [List.lookup_cons, hx]
      by_cases hc : (k₀ == NameKind.free && sc.kind == .function && sc.names.lookup n == some .cell) = true
      · rw [if_pos hc] at h'
        simp only [List.lookup_cons, hx] at h'
        exact ih h'
      · rw [if_neg hc] at h'
        simp only [List.lookup_cons, hx] at h'
        exact ih h'

/-- the names of a comprehension's block: its own (with their places in N), or captured -/
structure BlkOk (N : List Str) (sc scope : Scope) (own : List (Str × Nat)) : Prop where
  kind : scope.kind = .function
  uniq : ∀ y ∈ scope.names, scope.names.lookup y.1 = some y.2
  ix : ∀ p ∈ own, N[p.2]? = some p.1
  free : ∀ y ∈ scope.names, y.2 = .free → sc.names.lookup y.1 = some .cell ∨ sc.names.lookup y.1 = some .free
  own : ∀ y ∈ scope.names, y.2 = .local ∨ y.2 = .cell → y.1 ∈ own.map (·.1) ∨ y.1 ∉ N
/-- the slots of the block's own names forgotten -/
noncomputable def wipe (σ : St) : List Nat → St
  | [] => σ
  | v :: vs => (wipe σ vs).set v none
theorem wipe_length (σ : St) : ∀ vs : List Nat, (wipe σ vs).length = σ.length
  | [] => rfl
  | v :: vs => by unfold wipe; rw [List.length_set, wipe_length σ vs]
theorem wipe_some {σ : St} {i : Nat} {x : V} : ∀ {vs : List Nat}, (wipe σ vs)[i]? = some (some x) → σ[i]? = some (some x) ∧ i ∉ vs
  | [], h => ⟨h, by simp⟩
  | v :: vs, h => by
    unfold wipe at h
    by_cases hi : v = i
    · subst hi
      by_cases hv : v < (wipe σ vs).length
      · rw [List.getElem?_set_self hv] at h; cases h
      · rw [List.getElem?_eq_none (by simpa using hv)] at h; cases h
    · rw [List.getElem?_set_ne hi] at h
      obtain ⟨h1, h2⟩ := wipe_some h
      exact ⟨h1, by simp only [List.mem_cons, not_or]; exact ⟨fun e => hi e.symm, h2⟩⟩

/-- the context of a block that starts at s, its iterator's objects at fp -/
noncomputable abbrev Cx.blk (X : Cx) (s : Shared) (H : Hp) (scope : Scope) (cenv : Env) (fp : List Addr) : Cx := { X with s_0 := s, H_0 := H, env := cenv, outer := X.stack, ex := fp, fn := fun x => scope.names.lookup x == some .cell, pn := [], xe := fun _ _ => False }
section
variable {X : Cx} {pins : List (Addr × Obj)} {σ : St} {H : Hp} {s : Shared}
theorem block_start {scope : Scope} {own : List (Str × Nat)} {fp : List Addr} (I : Inv X pins σ H s) (ok : BlkOk X.N X.env.scope scope own) (hN : X.N.Nodup) (hfp : ∀ b ∈ fp, FpOk X pins H b ∧ b < s.heap.objs.size) :
    Inv (X.blk s H scope (compEnvC scope (cellsFrom (s.heap.objs.size + 1) scope.names (cloFrom X.env.cells scope.names [])) s.heap.objs.size X.env) fp) [] (wipe σ (own.map (·.2))) H { s with heap := pushCells (s.heap.push { cls := .type "dict", data := .dict #[] }) scope.names } := by
  have hfree : ∀ y ∈ scope.names, y.2 = .free → ∃ c, X.env.cells.lookup y.1 = some c := fun y hy e => by
    rcases ok.free y hy e with k | k
    · exact I.ok.has _ (.inl k)
    · exact I.ok.has _ (.inr k)
  generalize hcenv : compEnvC scope (cellsFrom (s.heap.objs.size + 1) scope.names (cloFrom X.env.cells scope.names [])) s.heap.objs.size X.env = cenv
  have kp : ∀ b o, s.heap.get? b = some o → (pushCells (s.heap.push { cls := .type "dict", data := .dict #[] }) scope.names).get? b = some o := fun b o e => pushCells_keeps _ _ _ _ (Heap.get?_push_of_some _ e)
  have hL : cenv.locals = s.heap.objs.size := by rw [← hcenv]; rfl
  have hcl : cenv.cells = cellsFrom (s.heap.objs.size + 1) scope.names (cloFrom X.env.cells scope.names []) := by rw [← hcenv]; rfl
  have hsc : cenv.scope = relS scope X.env.scope := by rw [← hcenv]; rfl
  rw [← Heap.size_push s.heap { cls := .type "dict", data := .dict #[] }] at hcl
  have cm : ∀ {y c}, (y, c) ∈ cloFrom X.env.cells scope.names [] → X.env.cells.lookup y = some c ∧ c < s.heap.objs.size := fun {y c} hm => by
    rcases cloFrom_mem hm with hm | ⟨h1, rfl⟩
    · cases hm
    · obtain ⟨c, hc⟩ := hfree _ h1 rfl
      rw [hc]
      obtain ⟨w, z⟩ := I.cell _ _ hc
      exact ⟨rfl, z.lt⟩
  have mem : ∀ {y c}, cenv.cells.lookup y = some c → (X.env.cells.lookup y = some c ∧ c < s.heap.objs.size) ∨ (s.heap.objs.size + 1 ≤ c ∧ CellAt (pushCells (s.heap.push { cls := .type "dict", data := .dict #[] }) scope.names) c none) := fun {y c} e => by
    rw [hcl] at e
    rcases cells_mem (PySem.mem_of_lookup e) with hm | ⟨_, h2, h3⟩
    · exact .inl (cm hm)
    · rw [Heap.size_push] at h2; exact .inr ⟨h2, h3⟩
  have look : ∀ {y}, scope.names.lookup y = some .free → ∃ c, cenv.cells.lookup y = some c ∧ X.env.cells.lookup y = some c := fun {y} hl => by
    have hy : (y, NameKind.free) ∈ scope.names := PySem.mem_of_lookup hl
    obtain ⟨c', e'⟩ := mem_lookup (cells_acc (names := scope.names) (n := (s.heap.push { cls := .type "dict", data := .dict #[] }).objs.size) (cloFrom_has (cells := X.env.cells) (acc := []) hy))
    rw [← hcl] at e'
    refine ⟨c', e', ?_⟩
    rw [hcl] at e'
    rcases cells_mem (PySem.mem_of_lookup e') with hm | ⟨h1, _, _⟩
    · exact (cm hm).1
    · have := ok.uniq _ h1
      rw [hl] at this; cases this
  have okB : (X.blk s H scope cenv fp).Ok := by
    refine ⟨I.ok.mod, by show cenv.scope.kind = _; rw [hsc]; exact ok.kind, by show cenv.globals = _; rw [← hcenv]; exact I.ok.glob, by show cenv.builtins = _; rw [← hcenv]; exact I.ok.blt, by show s.heap.objs.size ≤ cenv.locals; rw [hL]; exact Nat.le_refl _,
      fun y z c e1 e2 => ?_, fun y hy => ?_, fun y c z e => ?_, I.ok.hd, I.ok.frames, .inl rfl, fun b hb => ⟨?_, fun y c e z => ?_⟩, I.bs, Nat.le_trans I.ok.bsz I.sz, fun b o e hb => ?_, fun b hb z => ?_, I.stack, I.stkFree⟩
    · have e1 : cenv.cells.lookup y = some c := e1
      have e2 : cenv.cells.lookup z = some c := e2
      rw [hcl] at e1 e2
      refine cells_inj (fun p hp => ?_) (fun y z c a b => I.ok.inj y z c (cm a).1 (cm b).1) (PySem.mem_of_lookup e1) (PySem.mem_of_lookup e2)
      rw [Heap.size_push]
      exact Nat.lt_succ_of_lt (cm (y := p.1) (c := p.2) hp).2
    · show ∃ c, cenv.cells.lookup y = some c
      have key : ∀ k, cenv.kindOf y = some k → (k = .cell ∨ k = .free) → ∃ c, cenv.cells.lookup y = some c := fun k hk hk' => by
        unfold Env.kindOf at hk
        rw [hsc] at hk
        obtain ⟨k', e, r⟩ := lookup_relS hk
        have : k' = .cell ∨ k' = .free := by
          rcases r with rfl | ⟨rfl, _⟩
          · exact hk'
          · exact .inr rfl
        rcases this with rfl | rfl
        · obtain ⟨c, hm⟩ := cells_has (n := (s.heap.push { cls := .type "dict", data := .dict #[] }).objs.size) (acc := cloFrom X.env.cells scope.names []) (PySem.mem_of_lookup e)
          obtain ⟨c', e'⟩ := mem_lookup hm
          exact ⟨c', by rw [hcl]; exact e'⟩
        · obtain ⟨c, h1, _⟩ := look e
          exact ⟨c, h1⟩
      rcases hy with hy | hy
      · exact key _ hy (.inl rfl)
      · exact key _ hy (.inr rfl)
    · have z : (scope.names.lookup y == some NameKind.cell) = true := z
      have z : scope.names.lookup y = some .cell := by simpa using z
      have e : cenv.cells.lookup y = some c := e
      rw [hcl] at e
      rcases cells_mem (PySem.mem_of_lookup e) with hm | ⟨_, h2, _⟩
      · rcases cloFrom_mem hm with hm | ⟨h1, _⟩
        · cases hm
        · have q := ok.uniq _ h1
          rw [z] at q; cases q
      · rw [Heap.size_push] at h2
        exact Nat.le_of_succ_le h2
    · show b ≠ cenv.locals
      rw [hL]; exact Nat.ne_of_lt (hfp b hb).2
    · have e : cenv.cells.lookup y = some c := e
      rcases mem e with ⟨h1, _⟩ | ⟨h1, _⟩
      · exact (hfp b hb).1.2.2.2.2.1 y c h1 z
      · have h2 : s.heap.objs.size + 1 ≤ b := by rw [← z]; exact h1
        exact absurd (Nat.lt_of_lt_of_le (hfp b hb).2 (Nat.le_of_succ_le h2)) (Nat.lt_irrefl _)
    · rcases (hfp b hb).1.2.2.2.1 with z | z
      · exact I.ok.noex b o e z
      · exact absurd (Nat.lt_of_lt_of_le (Heap.lt_size e) (Nat.le_trans I.ok.bsz z)) (Nat.lt_irrefl _)
    · rcases List.mem_cons.mp (I.stkSub b z) with z | z
      · exact (hfp b hb).1.2.1 z
      · exact (hfp b hb).1.2.2.1 z
  refine ⟨okB, rfl, I.bare, Un.kept kp, ⟨fun _ => none, ?_, fun i y av e1 e2 e3 => ?_⟩, fun y c e => ?_, ?_, fun y c e => ?_, fun p hp => ?_, I.hok.kept kp, by rw [wipe_length]; exact I.len⟩
  · show Heap.Ns _ cenv.locals _
    rw [hL]
    exact Heap.Ns.keeps (Heap.Ns.new ..) fun b o e => pushCells_keeps _ _ _ _ e
  · obtain ⟨e2, hne⟩ := wipe_some e2
    have hfr : scope.names.lookup y = some .free ∧ (cenv.kindOf y = some .cell ∨ cenv.kindOf y = some .free) := by
      have key : ∀ k, cenv.scope.names.lookup y = some k → k = .local ∨ k = .cell ∨ k = .free → scope.names.lookup y = some .free ∧ (cenv.kindOf y = some .cell ∨ cenv.kindOf y = some .free) := fun k hk hk' => by
        have hk0 := hk
        rw [hsc] at hk
        obtain ⟨k', e, r⟩ := lookup_relS hk
        have no : ¬ (k' = .local ∨ k' = .cell) := fun hh => by
          rcases ok.own _ (PySem.mem_of_lookup e) hh with e' | e'
          · obtain ⟨p, hp, hpy⟩ := List.mem_map.mp e'
            have e3 := ok.ix p hp
            have : p.1 = y := hpy
            rw [this] at e3
            exact hne (List.mem_map.mpr ⟨p, hp, nodup_ix hN e3 e1⟩)
          · exact e' (List.mem_of_getElem? e1)
        rcases r with rfl | ⟨rfl, rfl⟩
        · rcases hk' with rfl | rfl | rfl
          · exact absurd (.inl rfl) no
          · exact absurd (.inr rfl) no
          · exact ⟨e, .inr hk0⟩
        · exact ⟨e, .inl hk0⟩
      have e3 : Vis cenv.scope y := e3
      rcases e3 with e3 | e3 | e3
      · exact key _ e3 (.inl rfl)
      · exact key _ e3 (.inr (.inl rfl))
      · exact key _ e3 (.inr (.inr rfl))
    obtain ⟨m, hn, hl⟩ := I.loc
    have hvis : Vis X.env.scope y := (ok.free _ (PySem.mem_of_lookup hfr.1) rfl).elim (fun k => .inr (.inl k)) (fun k => .inr (.inr k))
    obtain ⟨w, r, q⟩ := hl i y av e1 e2 hvis
    refine ⟨w, r, .inr ⟨hfr.2, ?_⟩⟩
    obtain ⟨c, h1, h2⟩ := look hfr.1
    rcases q with ⟨k, _⟩ | ⟨_, c', e', z⟩
    · have k : X.env.scope.names.lookup y = some .local := k
      rcases ok.free _ (PySem.mem_of_lookup hfr.1) rfl with k' | k' <;> rw [show X.env.scope.names.lookup y = _ from k'] at k <;> cases k
    · rw [h2] at e'; cases e'
      exact ⟨c, h1, z.keeps kp⟩
  · have e : cenv.cells.lookup y = some c := e
    rcases mem e with ⟨h1, _⟩ | ⟨_, z⟩
    · obtain ⟨w, z⟩ := I.cell y c h1
      exact ⟨w, z.keeps kp⟩
    · exact ⟨_, z⟩
  · show H cenv.locals = none
    rw [hL]; exact I.hok.fresh (Nat.le_refl _)
  · have e : cenv.cells.lookup y = some c := e
    rcases mem e with ⟨h1, _⟩ | ⟨h1, _⟩
    · exact I.freeC y c h1
    · exact I.hok.fresh (Nat.le_of_succ_le h1)
  · exact absurd (show p ∈ ([] : List (Addr × Obj)) ++ [] from hp) (by simp)

/-- an item appended to a tracked list -/
theorem app_ok {E : Value → Shared → Prop} {D : Addr} {xs : List V} {y : V} {v : Value} {Q : Value → Shared → Prop} (I : Inv X pins σ H s) (hD : H D = some (.lst xs)) (hz : xs.length < sizeLine) (r : RelV y v)
    (h : ∀ s', Inv X pins σ (upd H D (.lst (xs ++ [y]))) s' → Q .none s') : wpAny (model X.prog X.w) X.A (call (.builtin "list.append") [.ref D, v]) Q E s := by
  obtain ⟨hz', its, n, ri, e⟩ := I.hok D _ hD
  have hl := ri.length
  refine append_at (hsz := by rw [List.size_toArray]; omega) e fun h' sb ho' => ?_
  refine h { s with heap := h' } (I.write (t' := s.toks) (by rw [hD]; trivial) (.inl rfl) (fun b u hb q => (sb.2 b hb).trans q) ⟨_, ho'⟩ ⟨by rw [List.length_append]; exact hz, its ++ [v], n + 1, ri.append (.cons r .nil), ?_⟩)
  rw [ho']
  simp

/-- a clause's tests -/
noncomputable def PTs (X : Cx) (ifs : List Expr) (t : TT) : Prop :=
  ∀ (pins : List (Addr × Obj)) (s : Shared) (σ : St) (H : Hp) (Q : Bool → Hp → Prop), Inv X pins σ H s → t σ H Q →
    wpAny (model X.prog X.w) X.A (forIn ifs true fun c r => if r = true then do let ok ← isTrue c X.env (eval c X.env); pure (ForInStep.yield ok) else pure (ForInStep.yield r)) (TP X pins σ Q) X.xe s
noncomputable def tYes : TT := fun _ H Q => Q true H
theorem pts_nil : PTs X [] tYes := fun _ _ _ H _ I h => wpAny_tests_nil ⟨H, I, h⟩
theorem pts_one {c : Expr} {t : TT} (h : PT X c t) : PTs X [c] t := fun pins s σ H Q I hw => wpAny_tests_one (h pins s σ H Q I hw)
end

theorem thnF {α : Type} {t : Sem α} {Q Q' : α → Shared → Prop} {M : Model} {A : Around} {E : Value → Shared → Prop} {s : Shared} (h : wpAny M A t Q (fun _ _ => False) s) (hQ : ∀ a s, Q a s → Q' a s) : wpAny M A t Q' E s := wpAny_mono h hQ fun _ _ z => False.elim z

/-- the loop of a list comprehension's block, the target of any form (codeAny_compLoop_tests asks a target that no tuple goes to; statement and proof follow it, PyProof/CompMap.lean:41-61, with the step letOwnedTupleGo kept) -/
theorem compLoop_any {prog : Program} {w : World} {A : Around} {R : Result → Shared → Prop} {s : Shared} {elt target iter : Expr} {ifs : List Expr} {scope : Scope} {pos : Pos} {it acc : Value} {env : Env} (I : Nat → Shared → Prop)
    (turn : ∀ n s, I n s → wpAny (model prog w) A (pyNext it) (fun r s₁ => match r with
      | none => R (.ok .next) s₁
      | some v => wpAny (model prog w) A (letOwnedTupleGo target it v) (fun _ s₁' => wpAny (model prog w) A (assign target env v) (fun _ s₂ =>
          wpAny (model prog w) A (forIn ifs true fun c r => if r = true then do let ok ← isTrue c env (eval c env); pure (ForInStep.yield ok) else pure (ForInStep.yield r)) (fun ok s₃ =>
            if ok = true then wpAny (model prog w) A (eval elt env) (fun x s₄ =>
              wpAny (model prog w) A (call (.builtin "list.append") [acc, x]) (fun _ s₅ => ∃ m, m < n ∧ I m s₅) (notedBy (model prog w) A env fun e s' => R (.error e) s') s₄) (notedBy (model prog w) A env fun e s' => R (.error e) s') s₃
            else ∃ m, m < n ∧ I m s₃) (notedBy (model prog w) A env fun e s' => R (.error e) s') s₂) (notedBy (model prog w) A env fun e s' => R (.error e) s') s₁') (notedBy (model prog w) A env fun e s' => R (.error e) s') s₁) (notedBy (model prog w) A env fun e s' => R (.error e) s') s)
    (n : Nat) (h : I n s) :
    codeAny (model prog w) A (.compLoop (.ListComp elt [⟨target, iter, ifs, 0⟩] scope pos) 0 it acc env) R s := by
  refine codeAny_loop rfl I (fun n s hI => ?_) n h
  show wpAny _ A ((compTurn (.ListComp elt [⟨target, iter, ifs, 0⟩] scope pos) 0 it acc env).onRaise (fun x => do noteFrame x env; theTreesLotGoes x)) _ _ s
  refine wpAny_noted ?_
  rw [compTurn_list]
  refine wpAny_bind (wpAny_standAt (wpAny_bind (wpAny_mono (turn n s hI) (fun r s₁ h₁ => ?_) fun _ _ h' => h')))
  cases r with
  | none => exact wpAny_pure h₁
  | some v =>
    refine wpAny_bind (wpAny_mono h₁ (fun _ s₁' h₁' => ?_) fun _ _ h' => h')
    refine wpAny_bind (wpAny_mono h₁' (fun _ s₂ h₂ => wpAny_bind (wpAny_mono h₂ (fun ok s₃ h₃ => ?_) fun _ _ h' => h')) fun _ _ h' => h')
    cases ok with
    | false => exact wpAny_pure ⟨rfl, h₃⟩
    | true =>
      exact wpAny_bind (wpAny_bind (wpAny_mono h₃ (fun x s₄ h₄ => wpAny_bind (wpAny_mono h₄ (fun _ s₅ h₅ => wpAny_pure (wpAny_pure ⟨rfl, h₅⟩)) fun _ _ h' => h')) fun _ _ h' => h'))

section
variable {X : Cx}
/-- [elt for target in iter if ..]: D the new list; W by the turn and a measure, Nx what a turn is to reach -/
noncomputable def tLc (wi : TI) (g : TG) (tt : TT) (te : TE) (vs : List Nat) : TE := fun σ H Q => wi σ H fun J H1 => ∀ D, H1 D = none → ∃ W : Nat → Nat → Hp → Prop, (∃ m, W 0 m (upd H1 D (.lst []))) ∧ ∀ i m H, W i m H →
  (J.stop i H ∧ Q (.ref D) H) ∨ (J.go i H ∧ ∃ Nx : Hp → Prop, (∀ H', Nx H' → ∃ m', m' < m ∧ W (i + 1) m' H') ∧ ∀ x H', J.yld i H x H' → g x (wipe σ vs) H' fun σ2 H2 => wipe σ2 vs = wipe σ vs ∧ tt σ2 H2 fun b H3 =>
    if b = true then te σ2 H3 fun y H4 => ∃ acc, H4 D = some (.lst acc) ∧ acc.length < sizeLine ∧ Nx (upd H4 D (.lst (acc ++ [y]))) else Nx H3)
theorem lc_core {pins : List (Addr × Obj)} {s : Shared} {σ : St} {H : Hp} {Q : VK} {elt tg iter : Expr} {ifs : List Expr} {scope : Scope} {own : List (Str × Nat)} {pos pos' : Pos} {wi : TI} {g : TG} {tt : TT} {te : TE} {use : Option (Value → Sem Unit)} {Qf : Value → Shared → Prop}
    (hc : X.calm = true) (hN : X.N.Nodup) (I : Inv X pins σ H s) (hi : PI X tg iter wi) (ok : BlkOk X.N X.env.scope scope own)
    (hg : ∀ (s : Shared) (H : Hp) (C : Addr) (cl : List (Str × Addr)) (fp : List Addr), PG (X.blk s H scope (compEnvC scope cl C X.env) fp) tg g) (ht : ∀ (s : Shared) (H : Hp) (C : Addr) (cl : List (Str × Addr)) (fp : List Addr), PTs (X.blk s H scope (compEnvC scope cl C X.env) fp) ifs tt)
    (he : ∀ (s : Shared) (H : Hp) (C : Addr) (cl : List (Str × Addr)) (fp : List Addr), PE (X.blk s H scope (compEnvC scope cl C X.env) fp) elt te) (hs : ∀ x, foldedSetIterable iter X.env x = pure x)
    (h : tLc wi g tt te (own.map (·.2)) σ H Q)
    (hRR : ∀ D C s' m H', Inv X pins σ H' s' → Q (.ref D) H' → s'.heap.Ns C m → FpOk X pins H' C → compPost (model X.prog X.w) X.A X.xe use Qf (.ref D) C (.ok .next) s') :
    wpAny (model X.prog X.w) X.A (comprehension (.ListComp elt [⟨tg, iter, ifs, 0⟩] scope pos) scope X.env pos' (newList []) false (eval iter X.env) use) Qf X.xe s := by
  have hfree : ∀ y ∈ scope.names, y.2 = .free → ∃ c, X.env.cells.lookup y.1 = some c := fun y hy e => by
    rcases ok.free y hy e with k | k
    · exact I.ok.has _ (.inl k)
    · exact I.ok.has _ (.inr k)
  refine wpAny_comprehension_free (use := use) rfl hs (closure_ok hfree) ok.kind (fun y hy e => by rw [ok.uniq y hy, e])
    (thn (hi pins s σ H _ I h) fun xv s1 hx => thn hx fun itv s2 h2 => ?_)
  obtain ⟨it, fp, tn, J, H2, e, I2, T, st2, f2, q⟩ := h2
  subst e
  refine wpAny_newObj_type (newEnv_comp ?_) (by show 0 ≤ sizeLine; decide)
  generalize hD : s2.heap.objs.size = D
  have hDn : H2 D = none := I2.hok.fresh (Nat.le_of_eq hD)
  obtain ⟨W, ⟨m0, w0⟩, turn⟩ := q D hDn
  -- the new list
  generalize hs3 : ({ s2 with heap := s2.heap.push { cls := .type "list", data := .seq ([] : List Value).toArray } } : Shared) = s3
  have I3 : Inv X pins σ (upd H2 D (.lst [])) s3 := by
    rw [← hs3]
    refine I2.laid (t' := s2.toks) (fun b o e => Heap.get?_push_of_some _ e) (Nat.le_of_eq hD) ⟨Nat.zero_le _, [], 0, .nil, ?_⟩
    rw [← hD]
    exact Heap.get?_push_size _ rfl
  have h3 : s3.heap = s2.heap.push { cls := .type "list", data := .seq ([] : List Value).toArray } := by rw [← hs3]
  have sz : ∀ b ∈ fp, b < s2.heap.objs.size := fun b hb => by
    obtain ⟨o, e, _⟩ := T.obj _ _ st2 b hb
    exact Heap.lt_size e
  have f3 : ∀ b ∈ fp, FpOk X pins (upd H2 D (.lst [])) b ∧ b < s3.heap.objs.size := fun b hb => by
    have hlt := sz b hb
    refine ⟨⟨?_, (f2 b hb).2⟩, by rw [h3, Heap.size_push]; exact Nat.lt_succ_of_lt hlt⟩
    rw [upd_ne (by rw [← hD]; exact Nat.ne_of_lt hlt)]
    exact (f2 b hb).1
  have st3 : tn 0 s3.heap := T.keep _ _ _ st2 fun b _ o e => by rw [h3]; exact Heap.get?_push_of_some _ e
  have I4 := block_start I3 ok hN f3
  have pg := hg s3 (upd H2 D (.lst [])) s3.heap.objs.size (cellsFrom (s3.heap.objs.size + 1) scope.names (cloFrom X.env.cells scope.names [])) fp
  have pt := ht s3 (upd H2 D (.lst [])) s3.heap.objs.size (cellsFrom (s3.heap.objs.size + 1) scope.names (cloFrom X.env.cells scope.names [])) fp
  have pe := he s3 (upd H2 D (.lst [])) s3.heap.objs.size (cellsFrom (s3.heap.objs.size + 1) scope.names (cloFrom X.env.cells scope.names [])) fp
  show codeAny _ _ (.compStart (.ListComp elt [⟨tg, iter, ifs, 0⟩] scope pos) 0 (.ref it) (.ref D) (compEnvC scope (cellsFrom (s3.heap.objs.size + 1) scope.names (cloFrom X.env.cells scope.names [])) s3.heap.objs.size X.env)) (compPost (model X.prog X.w) X.A X.xe use Qf (.ref D) s3.heap.objs.size) { s3 with heap := pushCells (s3.heap.push { cls := .type "dict", data := .dict #[] }) scope.names }
  have nfp : ∀ b ∈ fp, (upd H2 D (.lst [])) b = none := fun b hb => (f3 b hb).1.1
  generalize hce : compEnvC scope (cellsFrom (s3.heap.objs.size + 1) scope.names (cloFrom X.env.cells scope.names [])) s3.heap.objs.size X.env = ce at I4 pg pt pe ⊢
  have cL : ce.locals = s3.heap.objs.size := by subst hce; rfl
  generalize hH3 : upd H2 D (.lst []) = H3 at I3 I4 pg pt pe w0 nfp f3
  generalize hs4 : ({ s3 with heap := pushCells (s3.heap.push { cls := .type "dict", data := .dict #[] }) scope.names } : Shared) = s4 at I4 ⊢
  have st4 : tn 0 s4.heap := T.keep _ _ _ st3 fun b _ o e => by rw [← hs4]; exact pushCells_keeps _ _ _ _ (Heap.get?_push_of_some _ e)
  have stat : ∀ {σ' : St} {H' : Hp} {s' : Shared}, Inv (X.blk s3 H3 scope ce fp) [] σ' H' s' → (∀ b ∈ fp, H' b = none) → ∀ b ∈ fp, FpOk (X.blk s3 H3 scope ce fp) [] H' b := fun {σ' H' s'} I' hn b hb =>
    ⟨hn b hb, (I'.ok.exf b hb).1, I'.ok.exfs b hb, .inl hb, fun x c e => (I'.ok.exf b hb).2 x c e, fun p hp => absurd (show p ∈ ([] : List (Addr × Obj)) ++ [] from hp) (by simp)⟩
  have loop : codeAny (model X.prog X.w) X.A (.compLoop (.ListComp elt [⟨tg, iter, ifs, 0⟩] scope pos) 0 (.ref it) (.ref D) ce) (compPost (model X.prog X.w) X.A X.xe use Qf (.ref D) s3.heap.objs.size) s4 := by
    refine compLoop_any (fun n s' => ∃ i H', Inv (X.blk s3 H3 scope ce fp) [] (wipe σ (own.map (·.2))) H' s' ∧ tn i s'.heap ∧ (∀ b ∈ fp, H' b = none) ∧ W i n H') ?_ m0 ⟨0, H3, I4, st4, nfp, w0⟩
    rintro n s5 ⟨i, H5, I5, st5, n5, w5⟩
    rcases turn i n H5 w5 with ⟨stop, qq⟩ | ⟨go, Nx, hNx, step⟩
    · have td := T.done (X.blk s3 H3 scope ce fp) rfl rfl rfl hc i [] s5 _ H5 (fun _ _ => False) I5 (stat I5 n5) st5 stop
      refine thnF td fun r s6 hPat => ?_
      obtain ⟨hr, I6⟩ := hPat
      subst hr
      -- back in the def's context
      have I7 : Inv X pins σ H5 s6 := I3.call' (ch := fp) I6.os I6.base I6.hok I6.bare fun b hb => ⟨(f3 b hb).1.2.2.2.1, (f3 b hb).1.2.1, (f3 b hb).1.2.2.2.2.1, (f3 b hb).1.2.2.2.2.2⟩
      have nC : H5 s3.heap.objs.size = none := by
        have z : H5 ce.locals = none := I6.free
        rw [cL] at z
        exact z
      obtain ⟨m, hn, _⟩ := I6.loc
      have hn : s6.heap.Ns ce.locals m := hn
      rw [cL] at hn
      exact hRR D s3.heap.objs.size s6 m H5 I7 qq hn (I3.fpOk (Nat.le_refl _) nC)
    · have ti := T.item (X.blk s3 H3 scope ce fp) rfl rfl rfl hc i [] s5 _ H5 (fun _ _ => False) I5 (stat I5 n5) st5 go
      refine thnF ti fun r s6 hPat => ?_
      obtain ⟨u, hr, h6⟩ := hPat
      subst hr
      refine thnF h6 fun _ s7 hPat => ?_
      obtain ⟨x, H7, I7, r7, y7, st7, n7⟩ := hPat
      have I7' := I7.pinned (stat I7 n7) (T.obj _ _ st7)
      refine thnF (pg _ s7 _ H7 x u _ I7' r7 (step x H7 y7)) fun _ s8 hPat => ?_
      obtain ⟨σ8, H8, I8, hw8, q8⟩ := hPat
      refine thnF (pt _ s8 σ8 H8 _ I8 q8) fun b s9 hPat => ?_
      obtain ⟨H9, I9, q9⟩ := hPat
      -- the turn's end
      have fin : ∀ {s' : Shared} {H' : Hp}, Inv (X.blk s3 H3 scope ce fp) ([] ++ pinsAt fp s7.heap) σ8 H' s' → Nx H' → ∃ m, m < n ∧ ∃ i H', Inv (X.blk s3 H3 scope ce fp) [] (wipe σ (own.map (·.2))) H' s' ∧ tn i s'.heap ∧ (∀ b ∈ fp, H' b = none) ∧ W i m H' := fun {s' H'} I' nx => by
        obtain ⟨m', hm, w'⟩ := hNx H' nx
        have pin' : ∀ b ∈ fp, ∀ o, s7.heap.get? b = some o → s'.heap.get? b = some o ∧ H' b = none := fun b hb o e =>
          let z := I'.pin (b, o) (List.mem_append_right _ (List.mem_append_right _ (mem_pinsAt hb e)))
          ⟨z.1, z.2.1⟩
        have hl : (wipe σ (own.map (·.2))).length = σ8.length := by rw [← hw8, wipe_length]
        refine ⟨m', hm, i + 1, H', (I'.unpinned (pins := [])).weak hl (fun j v e => ?_), T.keep _ _ _ st7 fun b hb o e => (pin' b hb o e).1, fun b hb => ?_, w'⟩
        · rw [← hw8] at e
          exact (wipe_some e).1
        · obtain ⟨o, e, _⟩ := T.obj _ _ st7 b hb
          exact (pin' b hb o e).2
      cases b with
      | false =>
        simp only [Bool.false_eq_true, if_false] at q9 ⊢
        exact fin I9 q9
      | true =>
        simp only [if_true] at q9 ⊢
        refine thnF (pe _ s9 σ8 H9 _ I9 q9) fun z s10 hPat => ?_
        obtain ⟨yv, H10, I10, r10, acc, hD10, hz10, nx⟩ := hPat
        exact app_ok (X := X.blk s3 H3 scope ce fp) I10 hD10 hz10 r10 fun s11 I11 => fin I11 nx
  exact codeAny_compStart_list loop (T.self X.A 0 _ _ _ st4 loop)
/-- as a value -/
theorem pe_lc {elt tg iter : Expr} {ifs : List Expr} {scope : Scope} {own : List (Str × Nat)} {pos : Pos} {wi : TI} {g : TG} {tt : TT} {te : TE} (hc : X.calm = true) (hN : X.N.Nodup) (hi : PI X tg iter wi) (ok : BlkOk X.N X.env.scope scope own)
    (hg : ∀ (s : Shared) (H : Hp) (C : Addr) (cl : List (Str × Addr)) (fp : List Addr), PG (X.blk s H scope (compEnvC scope cl C X.env) fp) tg g) (ht : ∀ (s : Shared) (H : Hp) (C : Addr) (cl : List (Str × Addr)) (fp : List Addr), PTs (X.blk s H scope (compEnvC scope cl C X.env) fp) ifs tt)
    (he : ∀ (s : Shared) (H : Hp) (C : Addr) (cl : List (Str × Addr)) (fp : List Addr), PE (X.blk s H scope (compEnvC scope cl C X.env) fp) elt te) (hs : ∀ x, foldedSetIterable iter X.env x = pure x := by intro _; rfl) :
    PE X (.ListComp elt [⟨tg, iter, ifs, 0⟩] scope pos) (tLc wi g tt te (own.map (·.2))) := by
  intro pins s σ H Q I h
  rw [eval_ListComp]
  refine lc_core hc hN I hi ok hg ht he hs h fun D C s' m H' I' q hn f => ⟨m, hn, fun h'' sb => ?_⟩
  obtain ⟨f0, f1, f2, f3, f4, f5⟩ := f
  exact ⟨.ref D, H', I'.turned (t' := s'.toks) (fun b o hb e => (sb.2 b hb).trans e) f0 f1 f3 f4 f5, rfl, q⟩
/-- name = [..] on one line, the name a local -/
theorem ps_setLc {i : Nat} {y : Str} {py : Pos} {elt tg iter : Expr} {ifs : List Expr} {scope : Scope} {own : List (Str × Nat)} {pos spos : Pos} {wi : TI} {g : TG} {tt : TT} {te : TE} (hc : X.calm = true) (hN : X.N.Nodup) (hy : X.N[i]? = some y) (hyl : X.env.scope.names.lookup y = some .local)
    (hsw : swapsWith (.ListComp elt [⟨tg, iter, ifs, 0⟩] scope pos) (some (.Name y py)) spos.line X.env = pure true) (hi : PI X tg iter wi) (ok : BlkOk X.N X.env.scope scope own)
    (hg : ∀ (s : Shared) (H : Hp) (C : Addr) (cl : List (Str × Addr)) (fp : List Addr), PG (X.blk s H scope (compEnvC scope cl C X.env) fp) tg g) (ht : ∀ (s : Shared) (H : Hp) (C : Addr) (cl : List (Str × Addr)) (fp : List Addr), PTs (X.blk s H scope (compEnvC scope cl C X.env) fp) ifs tt)
    (he : ∀ (s : Shared) (H : Hp) (C : Addr) (cl : List (Str × Addr)) (fp : List Addr), PE (X.blk s H scope (compEnvC scope cl C X.env) fp) elt te) (hs : ∀ x, foldedSetIterable iter X.env x = pure x := by intro _; rfl) :
    PS X (.Assign [.Name y py] (.ListComp elt [⟨tg, iter, ifs, 0⟩] scope pos) spos) (tAsg (tLc wi g tt te (own.map (·.2))) (gName i)) := by
  intro pins s σ H D I h
  rw [exec_Assign_Name_used _ _ _ _ hsw]
  refine wpAny_bind (wpAny_standAt (wpAny_bind ?_))
  show wpAny _ X.A (do let _ ← comprehension (.ListComp elt [⟨tg, iter, ifs, 0⟩] scope pos) scope X.env (firstIterPos [⟨tg, iter, ifs, 0⟩] pos) (newList []) false (eval iter X.env) (some (assign (.Name y py) X.env))) _ _ s
  have h : tLc wi g tt te (own.map (·.2)) σ H (fun x H1 => gName i x σ H1 D.nx) := h
  refine wpAny_bind (thn (lc_core (Qf := fun _ s' => SP X pins D .next s') hc hN I hi ok hg ht he hs h fun L C s' m H' I' q hn f => ?_) fun _ s' hq => wpAny_pure (wpAny_pure hq))
  show wpAny _ _ (assign (.Name y py) X.env (.ref L)) _ _ _
  refine wpAny_assign_Name (store_ok2 (v := V.ref L) I' hN hy (.inl hyl) rfl (fun s2 I2 hPat => ?_) (.inr hyl))
  obtain ⟨a, sb, ha⟩ := hPat
  obtain ⟨f0, f1, f2, f3, f4, f5⟩ := f
  have haC : C ≠ a := by
    rcases ha with z | z
    · rw [z]; exact f1
    · exact fun e => f4 y a z e.symm
  refine ⟨m, hn.sameBut sb haC, fun h3 sb3 => ?_⟩
  exact ⟨_, H', I2.turned (t' := s2.toks) (fun b o hb e => (sb3.2 b hb).trans e) f0 f1 f3 f4 f5, q⟩
theorem sw_true {elt : Expr} {gs : List Comprehension} {scope : Scope} {pos py : Pos} {y : Str} {l : Nat} {env : Env} (hk : env.scope.kind = .function) (hy : env.scope.names.lookup y = some .local) (hl : (py.line == pos.line) = true)
    (ha : (scope.names.any fun (n, k) => n == y && (k == .local || k == .cell)) = false) : swapsWith (.ListComp elt gs scope pos) (some (.Name y py)) l env = pure true := by
  have ky : env.kindOf y = some .local := hy
  have hb : env.blockKind = .function := by unfold Env.blockKind; rw [hk]; rfl
  unfold swapsWith
  simp only [hb, ky, ha, Expr.pos, hl]
  rfl
end

/-! ### the forms one uses -/
/-- over a range: Pv by the turn and the heap (the new list at D within) -/
theorem lc_range {lo : Int} {n : Nat} {g : TG} {tt : TT} {te : TE} {vs : List Nat} {σ : St} {H1 : Hp} {D : Addr} {Qd : Hp → Prop} (Pv : Nat → Hp → Prop) (h0 : Pv 0 (upd H1 D (.lst [])))
    (hs : ∀ i H, i < n → Pv i H → g (.int (lo + i)) (wipe σ vs) H fun σ2 H2 => wipe σ2 vs = wipe σ vs ∧ tt σ2 H2 fun b H3 =>
      if b = true then te σ2 H3 fun y H4 => ∃ acc, H4 D = some (.lst acc) ∧ acc.length < sizeLine ∧ Pv (i + 1) (upd H4 D (.lst (acc ++ [y]))) else Pv (i + 1) H3) (hd : ∀ H, Pv n H → Qd H) :
    ∃ W : Nat → Nat → Hp → Prop, (∃ m, W 0 m (upd H1 D (.lst []))) ∧ ∀ i m H, W i m H →
      ((Itr lo n).stop i H ∧ Qd H) ∨ ((Itr lo n).go i H ∧ ∃ Nx : Hp → Prop, (∀ H', Nx H' → ∃ m', m' < m ∧ W (i + 1) m' H') ∧ ∀ x H', (Itr lo n).yld i H x H' → g x (wipe σ vs) H' fun σ2 H2 => wipe σ2 vs = wipe σ vs ∧ tt σ2 H2 fun b H3 =>
        if b = true then te σ2 H3 fun y H4 => ∃ acc, H4 D = some (.lst acc) ∧ acc.length < sizeLine ∧ Nx (upd H4 D (.lst (acc ++ [y]))) else Nx H3) := by
  refine ⟨fun i m H => m = n - i ∧ i ≤ n ∧ Pv i H, ⟨n, by simp, Nat.zero_le _, h0⟩, ?_⟩
  rintro i m H ⟨rfl, hi, p⟩
  by_cases hlt : i < n
  · refine .inr ⟨hlt, Pv (i + 1), fun H' p' => ⟨n - (i + 1), by omega, rfl, hlt, p'⟩, fun x H' y => ?_⟩
    obtain ⟨e, y⟩ := y
    subst e y
    exact hs i _ hlt p
  · have e : i = n := by omega
    subst e
    exact .inl ⟨Nat.le_refl _, hd H p⟩
/-- over a list that the block leaves as it is -/
theorem lc_list {K : PySem.W.Frag} {a : Addr} {xs : List V} {g : TG} {tt : TT} {te : TE} {vs : List Nat} {σ : St} {H1 : Hp} {D : Addr} {Qd : Hp → Prop} (Pv : Nat → Hp → Prop) (h0 : Pv 0 (upd H1 D (.lst []))) (hl : ∀ i H, i ≤ xs.length → Pv i H → SqL K H a xs)
    (hs : ∀ i x H, xs[i]? = some x → Pv i H → g x (wipe σ vs) H fun σ2 H2 => wipe σ2 vs = wipe σ vs ∧ tt σ2 H2 fun b H3 =>
      if b = true then te σ2 H3 fun y H4 => ∃ acc, H4 D = some (.lst acc) ∧ acc.length < sizeLine ∧ Pv (i + 1) (upd H4 D (.lst (acc ++ [y]))) else Pv (i + 1) H3) (hd : ∀ H, Pv xs.length H → Qd H) :
    ∃ W : Nat → Nat → Hp → Prop, (∃ m, W 0 m (upd H1 D (.lst []))) ∧ ∀ i m H, W i m H →
      ((Itl K a).stop i H ∧ Qd H) ∨ ((Itl K a).go i H ∧ ∃ Nx : Hp → Prop, (∀ H', Nx H' → ∃ m', m' < m ∧ W (i + 1) m' H') ∧ ∀ x H', (Itl K a).yld i H x H' → g x (wipe σ vs) H' fun σ2 H2 => wipe σ2 vs = wipe σ vs ∧ tt σ2 H2 fun b H3 =>
        if b = true then te σ2 H3 fun y H4 => ∃ acc, H4 D = some (.lst acc) ∧ acc.length < sizeLine ∧ Nx (upd H4 D (.lst (acc ++ [y]))) else Nx H3) := by
  refine ⟨fun i m H => m = xs.length - i ∧ i ≤ xs.length ∧ Pv i H, ⟨xs.length, by simp, Nat.zero_le _, h0⟩, ?_⟩
  rintro i m H ⟨rfl, hi, p⟩
  have q := hl i H hi p
  by_cases hlt : i < xs.length
  · refine .inr ⟨⟨xs, xs[i], q, by simp [hlt]⟩, Pv (i + 1), fun H' p' => ⟨xs.length - (i + 1), by omega, rfl, hlt, p'⟩, fun x H' y => ?_⟩
    obtain ⟨e, y⟩ := y
    subst e
    exact hs i x _ (y xs q) p
  · have e : i = xs.length := by omega
    subst e
    exact .inl ⟨⟨xs, q, Nat.le_refl _⟩, hd H p⟩
noncomputable def blkC (N : List Str) (sc scope : Scope) (own : List (Str × Nat)) : Bool :=
  (match scope.kind with | .function => true | _ => false) && (scope.names.all fun y => decide (scope.names.lookup y.1 = some y.2)) && (own.all fun p => decide (N[p.2]? = some p.1)) &&
    (scope.names.all fun y => match y.2 with
      | .free => (match sc.names.lookup y.1 with | some .cell => true | some .free => true | _ => false)
      | .local => decide (y.1 ∈ own.map (·.1)) || decide (y.1 ∉ N)
      | .cell => decide (y.1 ∈ own.map (·.1)) || decide (y.1 ∉ N)
      | _ => true)
theorem blkOk_by {N : List Str} {sc scope : Scope} {own : List (Str × Nat)} (h : blkC N sc scope own = true) : BlkOk N sc scope own := by
  unfold blkC at h
  simp only [Bool.and_eq_true, List.all_eq_true, decide_eq_true_eq] at h
  obtain ⟨⟨⟨h1, h2⟩, h3⟩, h4⟩ := h
  refine ⟨?_, h2, h3, fun y hy e => ?_, fun y hy e => ?_⟩
  · split at h1
    · assumption
    · cases h1
  · have q := h4 y hy
    simp only [e] at q
    split at q <;> first | exact .inl (by assumption) | exact .inr (by assumption) | cases q
  · have q := h4 y hy
    rcases e with e | e <;> (simp only [e, Bool.or_eq_true, decide_eq_true_eq] at q; exact q)
end L2

namespace L2
open PySem PySem.Spec PyProof.Rows

section
variable {prog : Program} {w : World} {A : Around} {R : Result → Shared → Prop} {s : Shared} {elt t0 i0 t1 i1 : Expr} {ifs0 ifs1 : List Expr} {scope : Scope} {pos : Pos} {it acc : Value} {env : Env}
end

section
variable {X : Cx}
end
end L2

namespace L2
open PySem PySem.Spec PyProof.Rows

/-! ### lists of pairs as tables -/
section
variable {κ : Type} [DecidableEq κ]

end

/-! ### a tracked dict, its keys ints and texts or tuples of these -/

section
variable {P : Program} {w : World} {H : Hp} {h : Heap} {a : Addr}
end

section
variable {X : Cx} {pins : List (Addr × Obj)} {σ : St} {H : Hp} {s : Shared} {a : Addr} {y v : V} {u r : Value} {o : Option V} {A : Around} {E : Value → Shared → Prop}

end

section
variable {X : Cx} {pins : List (Addr × Obj)} {σ : St} {H : Hp} {s : Shared} {a : Addr} {kvs : List (Key × V)} {k : Key} {u : Value} {A : Around} {E : Value → Shared → Prop}
end

/-! ### readings and rules -/

section
variable {X : Cx} {o i e value : Expr} {pos pos' tpos : Pos} {td ty tv : TE}
end

/-! ### displays -/
section
variable {X : Cx} {pos : Pos}
end

/-! ### methods -/
/-- a method call o.m(e) of a built-in, with one argument: what must be seen of the text -/
structure M1 (X : Cx) (o : Expr) (m : Str) (apos : Pos) (e : Expr) (cpos : Pos) : Prop where
  base : attributeBase o m X.env (eval o X.env) = eval o X.env
  few : ((backTo cpos (starEach [e] X.env)).all (fun x => !x.1) && (backToKw cpos (keywordEach [] X.env)).all (fun x => x.1.isSome)
    && decide (([e] : List Expr).length + ([] : List Keyword).length + (if ([] : List Keyword).isEmpty then 0 else 1) < 30)) = true
  line : (apos.endLine == cpos.line) = true
  trees : backTo cpos (starEach [e] X.env) = [(false, eval e X.env)]
structure M2 (X : Cx) (o : Expr) (m : Str) (apos : Pos) (e f : Expr) (cpos : Pos) : Prop where
  base : attributeBase o m X.env (eval o X.env) = eval o X.env
  few : ((backTo cpos (starEach [e, f] X.env)).all (fun x => !x.1) && (backToKw cpos (keywordEach [] X.env)).all (fun x => x.1.isSome)
    && decide (([e, f] : List Expr).length + ([] : List Keyword).length + (if ([] : List Keyword).isEmpty then 0 else 1) < 30)) = true
  line : (apos.endLine == cpos.line) = true
  trees : backTo cpos (starEach [e, f] X.env) = [(false, eval e X.env), (false, eval f X.env)]

section
variable {X : Cx} {pins : List (Addr × Obj)} {σ : St} {H : Hp} {s : Shared} {a : Addr} {y d : V} {u r : Value} {o : Option V} {A : Around} {E : Value → Shared → Prop}
end

section
variable {X : Cx} {o e f : Expr} {apos cpos : Pos} {td ty tx : TE}
end

/-! ### dict(d): a copy -/
section
variable {X : Cx} {pins : List (Addr × Obj)} {σ : St} {H : Hp} {s : Shared} {a : Addr} {kvs : List (Key × V)} {A : Around} {E : Value → Shared → Prop}
end

section
variable {X : Cx} {pins : List (Addr × Obj)} {σ : St} {H : Hp} {s : Shared} {a : Addr} {y : V} {u : Value} {A : Around} {E : Value → Shared → Prop}
end
end L2

namespace L2
open PySem PySem.Spec PyProof.Rows

section
variable {prog : Program} {w : World} {A : Around} {E : Value → Shared → Prop}

end

section
variable {X : Cx}
end
end L2

namespace L2
open PySem PySem.Spec PyProof.Rows

section
variable {X : Cx} {pins : List (Addr × Obj)} {σ : St} {H : Hp} {s : Shared} {h' : Heap}

/-! ### locking a thing while a statement runs -/
end
section
variable {X : Cx}

/-! ### one iterator just laid -/
end

/-! ### range with a step -/
section
variable {X : Cx} {tg : Expr}
end

/-! ### reversed(list) -/
section
variable {X : Cx} {tg : Expr}
end

/-! ### a str -/

/-! ### a dict's keys: any dict's entries -/
section
variable {prog : Program} {w : World} {A : Around} {E : Value → Shared → Prop} {s : Shared}
end

/-! ### a locked dict -/
theorem paired_get {α β : Type} {G : α → β → Prop} {l₁ : List α} {l₂ : List β} (h : Paired G l₁ l₂) : ∀ {i : Nat} {a : α}, l₁[i]? = some a → ∃ b, l₂[i]? = some b ∧ G a b := by
  induction h with
  | nil => intro i a e; simp at e
  | @cons a b l₁ l₂ r t ih =>
    intro i a' e
    cases i with
    | zero =>
      simp only [List.getElem?_cons_zero, Option.some.injEq] at e
      subst e
      exact ⟨b, rfl, r⟩
    | succ j =>
      simp only [List.getElem?_cons_succ] at e ⊢
      exact ih e
section
variable {X : Cx} {pins : List (Addr × Obj)} {σ : St} {H : Hp} {s : Shared} {d : Addr} {o : Obj}
end

section
variable {P : Program} {w : World} {K : PySem.W.Frag} {tg : Expr} {d : Addr} {o : Obj} {es : Array DictEntry} {ep : Nat}
end

/-! ### for k in d, d.keys(), d.values(), d.items() -/
section
variable {X : Cx} {tg e : Expr} {td : TE} {apos cpos : Pos}
end

/-! ### enumerate(list) -/
/-! ### zip(list, list) -/
end L2

section 
namespace Bits
open PySem PyProof.Rows

end Bits
end 

section 
namespace TL
open PySem PySem.Builtin PySem.Builtin.Str PySem.StrLaws

/-! ### the list functions -/

/-! ### the model's split and partition are these -/

/-! ### computing spl and par -/

/-! ### digits -/

/-! ### words: x.split() -/
end TL
end 

namespace L2
open PySem PySem.Spec PyProof.Rows

section
variable {X : Cx} {pins : List (Addr × Obj)} {σ : St} {H : Hp} {s : Shared} {Q : VK}
end

section
variable {X : Cx}

/-! ### of a text alone -/

/-! ### of a text and a text -/

end

section
variable {X : Cx} {o e : Expr} {to te : TE}

end
end L2

namespace L2
open PySem PySem.Spec PyProof.Rows

section
variable {X : Cx}
end

/-! ### slices of a text -/

end L2

namespace Att
open PySem PySem.W PySem.Calls PyProof.Rows

/-! ### the script -/

/-! ### the attachment: holds_open's last premise (the goal 'hc' behind k_head) from a wpAny of the law's body -/

/-! ### rules over ANY heap (no ledger) from facts about the written part K: the library's own take a ledger (News) for what they write -/
section
variable {prog : Program} {w : World} {A : Around} {E : Value → Shared → Prop} {s : Shared} {K : Frag}

/-! the whole heap as the ledger: makes every rule that writes through a ledger a rule over any heap -/

end
end Att

namespace L2
open PySem PySem.Spec PyProof.Rows

end L2

namespace L2
open PySem PySem.Spec PyProof.Rows

end L2

/- THE LAST THEOREM (shape; LID, My.* are yours):
   My.Adr: a structure of the addresses that your layer names (classes, functions); My.Txt K t: a structure (Prop) of the equations over K;
   My.txt_mk : {K} {implicit addresses ..} (e1 : nsIn K mainGlobals "law" = some (some (.ref f))) (e2 : K.lookup f = some ⟨oc, od, .func (fnOf "law" "law" params body scope dV kV doc pm an cdv ct), sl⟩) (e3 : codeIn K cdv "law" = true) .. : ∃ t, My.Txt K t

set_option maxRecDepth 100000 in
set_option maxHeartbeats 0 in
theorem PySem.Challenge.cw_LID_holds : PySem.Challenge.rw_LID.Holds := by
  w_on; o_law; k_head; (case hw => w_witness2)
  k_fill
  refine L2.walk_of (l := PySem.Challenge.rw_LID) (n := 63) (k := 40) (x := "script") (CX := fun w => ..) (sp := fun _ => My.sp_law) rfl (by decide) rfl ⟨rfl, by decide, by decide⟩ (fun w h Y => PySem.W.kIn_of Y) ?F ?S ?C
  case F =>
    intro w mg fa h KX G hmg
    have T : ∃ t, My.Txt (L2.KOf KX) t := by
      dsimp only [L2.KOf]                          -- K must stand as «<heap const> w.params» for k_is
      refine' My.txt_mk ?e1 ?e2 ?e3 ..
      (case e1 => PySem.W.k_is)                    -- in the order: a name -> its address -> its object -> its parts
      (case e2 => PySem.W.k_is)
      ..
    obtain ⟨t, T⟩ := T
    have e0 := hmg.symm.trans (PySem.W.mg_of KX G T.law)
    cases e0                                       -- fa is the law's own address
    exact ⟨_, fun s u => .of_eq rfl, fun base kb nb => My.law_fn T kb nb⟩     -- if «.of_eq rfl» comes too early: refine' ⟨_, ?b, fun base kb nb => My.law_fn T kb nb⟩; exact fun s u => .of_eq rfl
  case S => exact fun w H a ns hl hO hS => ..
  case C => exact ..
(the tactic k_is has no namespace: write k_is) -/

/-! SHORT WORDS over the layer: a def of the text, its body, what a loop and a test want. -/
namespace L2
open PySem PySem.Spec PyProof.Rows

/-! ### the text by places -/
/-- the j-th statement of a class's body -/
noncomputable def inClass (s : Stmt) (j : Nat) : Stmt := match s with
  | .ClassDef _ _ _ body _ _ _ _ _ _ _ => body.getD j (.Pass ⟨0, 0, 0, 0⟩)
  | _ => .Pass ⟨0, 0, 0, 0⟩
noncomputable def defArgs (s : Stmt) : Arguments := match s with
  | .FunctionDef _ a _ _ _ _ _ _ _ _ => a
  | _ => { posonlyargs := [], args := [], vararg := none, kwonlyargs := [], kw_defaults := [], kwarg := none, defaults := [] }
noncomputable def defBody (s : Stmt) : List Stmt := match s with
  | .FunctionDef _ _ b _ _ _ _ _ _ _ => b
  | _ => []
noncomputable def defScope (s : Stmt) : Scope := match s with
  | .FunctionDef _ _ _ _ _ _ sc _ _ _ => sc
  | _ => { kind := .function, names := [], isGenerator := false, isCoroutine := false }

/-! ### no exception leaves a def -/
noncomputable abbrev CX0 : CXT := fun _ _ _ _ _ _ => False
noncomputable abbrev E0 : XK := fun _ _ _ => False
theorem pass0 {X : Cx} : Passes CX0 X E0 := fun _ _ _ _ _ _ _ h => h.elim

/-! ### a def (or method) of the text as it stands behind the top -/
structure Fun (K : PySem.W.Frag) (x qual : Str) (st : Stmt) (f : Addr) (fd : FuncData) : Prop where
  ex : ∃ (oc : Value) (od : Option Addr) (kV doc pm : Value) (an : Option Addr) (cdv ct : Value) (osl : Array (Option Value)),
    fd = PySem.W.fnOf x qual (defArgs st) (defBody st) (defScope st) .none kV doc pm an cdv ct ∧ K.lookup f = some ⟨oc, od, .func fd, osl⟩ ∧ PySem.W.codeIn K cdv qual = true
  kp : PySem.W.keepIn K (.ref f) = true
section
variable {P : Program} {w : World} {K : PySem.W.Frag} {mg : Str → Option Value} {base : Heap}
/-- THE RULE for a def: its body as a term of rules, and the reading of that term -/
theorem Fun.ok {x qual : Str} {st : Stmt} {f : Addr} {fd : FuncData} {N ps : List Str} {k : Nat} {sp : Sp} (F : Fun K x qual st f fd) (S : FnScope N ps (defScope st)) (len : ∀ vs H Q E, sp vs H Q E → vs.length = ps.length)
    (hbody : ∀ (cdv : Value) (A : Around) (outer : List Env) (s : Shared) (H : Hp) (vs : List V) (Q : VK) (E : XK), Room k (A.deeper (envOfC qual (defScope st) s.heap.objs.size f cdv)) → sp vs H Q E →
      ∃ t, PSs (cxOf CX0 P w K mg base N qual (defScope st) f cdv A outer s H E).nox (defBody st) t ∧ t { nx := fun _ H' => Q .non H', rt := Q } (start N vs) H) : FnOk P w K mg base CX0 (k + 1) f fd ps sp := by
  obtain ⟨oc, od, kV, doc, pm, an, cdv, ct, osl, rfl, lk, hcd⟩ := F.ex
  refine fn_of lk hcd S len fun A outer s H vs Q E hr hsp => ?_
  obtain ⟨t, h, q⟩ := hbody cdv A outer s H vs Q E hr hsp
  exact ⟨t, h.nox, q⟩
/-- how its arguments bind (no defaults): h is «fun _ _ _ _ _ _ us hl => match us, hl with | [_, _], _ => rfl», one _ a parameter -/
theorem Fun.binds {x qual : Str} {st : Stmt} {f : Addr} {fd : FuncData} {ps : List Str} (F : Fun K x qual st f fd)
    (h : ∀ (kV doc pm : Value) (an : Option Addr) (cdv ct : Value) (us : List Value), us.length = ps.length → bindArgs (PySem.W.fnOf x qual (defArgs st) (defBody st) (defScope st) .none kV doc pm an cdv ct) ⟨us, []⟩ = pure (ps.zip us)) : Binds K fd ps [] := by
  obtain ⟨oc, od, kV, doc, pm, an, cdv, ct, osl, rfl, lk, hcd⟩ := F.ex
  exact .all (h kV doc pm an cdv ct)
theorem fun_mk {x qual : Str} {st : Stmt} {f : Addr} {oc : Value} {od an : Option Addr} {osl : Array (Option Value)} {kV doc pm cdv ct : Value} (l : K.lookup f = some ⟨oc, od, .func (PySem.W.fnOf x qual (defArgs st) (defBody st) (defScope st) .none kV doc pm an cdv ct), osl⟩)
    (c : PySem.W.codeIn K cdv qual = true) (k : PySem.W.keepIn K (.ref f) = true) : Fun K x qual st f (PySem.W.fnOf x qual (defArgs st) (defBody st) (defScope st) .none kV doc pm an cdv ct) := ⟨⟨oc, od, kV, doc, pm, an, cdv, ct, osl, rfl, l, c⟩, k⟩
end
theorem small1000 {n : Nat} (h : n ≤ 1000) : n < sizeLine := Nat.lt_of_le_of_lt h (by decide)

/-! ### expressions in short: the name that stands in the i-th slot -/
section
variable {X : Cx}
theorem pv (i : Nat) {x : Str} {pos : Pos} (hN : X.N[i]? = some x := by rfl) (hv : Vis X.env.scope x := by first | exact Or.inl rfl | exact Or.inr (Or.inl rfl) | exact Or.inr (Or.inr rfl)) (hd : (x == ("__debug__" : Str)) = false := by decide)
    (hcd : (x == ("__classdict__" : Str)) = false := by decide) : PE X (.Name x pos) (tVar i) := pe_var hN hv hd hcd
end

/-! ### tests -/
theorem iteF {A B : Prop} (h : B) : if false = true then A else B := by
  rw [if_neg Bool.false_ne_true]
  exact h
theorem iteT {A B : Prop} (h : A) : if true = true then A else B := by
  rw [if_pos rfl]
  exact h
theorem ite2 {c A B : Prop} [Decidable c] (h1 : c → A) (h2 : ¬ c → B) : if c then A else B := by
  by_cases h : c
  · rw [if_pos h]
    exact h1 h
  · rw [if_neg h]
    exact h2 h

/-! ### heaps -/
/-- all that was tracked is as it was -/
noncomputable def Same (H H' : Hp) : Prop := ∀ b o, H b = some o → H' b = some o
theorem Same.refl (H : Hp) : Same H H := fun _ _ h => h
theorem Same.trans {H H1 H2 : Hp} (a : Same H H1) (b : Same H1 H2) : Same H H2 := fun c o h => b c o (a c o h)
theorem Same.free {H H' : Hp} (e : Same H H') {l : Addr} (h : H' l = Option.none) : H l = Option.none := by
  cases q : H l with
  | none => rfl
  | some o =>
    rw [e l o q] at h
    cases h
theorem Same.seq {K : PySem.W.Frag} {H H' : Hp} {a : Addr} {xs : List V} (e : Same H H') (h : SqL K H a xs) : SqL K H' a xs := by
  rcases h with (h | ⟨o, h⟩) | h
  · exact .inl (.inl (e _ _ h))
  · exact .inl (.inr ⟨o, e _ _ h⟩)
  · exact .inr h

/-! ### a dict's pairs: keys that differ -/
section
variable {κ : Type} [DecidableEq κ]
end
/-! ### lists -/
/-- a new instance and its __init__ leave all that was tracked as it was -/
theorem Same.made {H H1 : Hp} {x dx C : Addr} (nx : H x = Option.none) (nd : H dx = Option.none) (k : ∀ b o, (upd (upd H dx (.own x)) x (.ins C dx [])) b = some o → b ≠ x → H1 b = some o) : Same H H1 := fun b o e =>
  k b o (by rw [upd_ne (ne_of_none e nx), upd_ne (ne_of_none e nd)]; exact e) (ne_of_none e nx)
end L2

section
set_option Elab.async false
set_option linter.all false
set_option maxRecDepth 100000
set_option maxHeartbeats 2000000
namespace L2
open PySem PySem.Spec PyProof.Rows
open PySem.W (WData Codec OpenSpec Well WellAll ReadsW ReadsAllW)
/-! ### an answer as data -/
mutual
/-- x stands for the datum d, lists and tuples all the way -/
inductive Dw (K : PySem.W.Frag) (H : Hp) : V → WData → Prop
  | non : Dw K H .non .none
  | bl (b : Bool) : Dw K H (.bl b) (.bool b)
  | int (i : Int) : Dw K H (.int i) (.int i)
  | str (x : Str) : Dw K H (.str x) (.str x)
  | byt (b : Array UInt8) : Dw K H (.byt b) (.bytes b.toList)
  | lst {a : Addr} {xs : List V} {ds : List WData} : SqL K H a xs → DwAll K H xs ds → Dw K H (.ref a) (.list ds)
  | tup {a : Addr} {xs : List V} {ds : List WData} : SqT K H a xs → DwAll K H xs ds → Dw K H (.ref a) (.tuple ds)
inductive DwAll (K : PySem.W.Frag) (H : Hp) : List V → List WData → Prop
  | nil : DwAll K H [] []
  | cons {v : V} {vs : List V} {d : WData} {ds : List WData} : Dw K H v d → DwAll K H vs ds → DwAll K H (v :: vs) (d :: ds)
end
theorem dw_ints {K : PySem.W.Frag} {H : Hp} : ∀ ns : List Int, DwAll K H (ns.map V.int) (ns.map WData.int)
  | [] => .nil
  | n :: r => .cons (.int n) (dw_ints r)
theorem ints_dw {K : PySem.W.Frag} {H : Hp} : ∀ (ns : List Int) (xs : List V), DwAll K H xs (ns.map WData.int) → xs = ns.map V.int
  | [], xs, h => by
    cases h
    rfl
  | n :: r, xs, h => by
    cases h with
    | cons h1 h2 =>
      cases h1
      rw [ints_dw r _ h2] <;> rfl
section
variable {P : Program} {w : World} {K : PySem.W.Frag} {H : Hp} {h : Heap} {R : PySem.W.WRecords} {cl : Str → Option Addr}
theorem sqL_at {a : Addr} {xs : List V} (hok : HOk P w H h) (KX : K.In h) (q : SqL K H a xs) : ∃ (its : List Value) (o : Obj) (n : Nat), Vals xs its ∧ h.get? a = some o ∧ o.cls = .type "list" ∧ o.data = .seq its.toArray n := by
  rcases q with q | ⟨o, its, n, e, hc, _, hd, _, hv⟩
  · obtain ⟨_, its, n, hv, e⟩ := (show ObjOk P w H h a (.lst xs) from q.ok hok)
    exact ⟨its, _, n, hv, e, rfl, rfl⟩
  · exact ⟨its.toList, o, n, hv, KX _ _ e, hc, by simp [hd]⟩
theorem sqT_at {a : Addr} {xs : List V} (hok : HOk P w H h) (KX : K.In h) (q : SqT K H a xs) : ∃ (its : List Value) (o : Obj) (n : Nat), Vals xs its ∧ h.get? a = some o ∧ o.cls = .type "tuple" ∧ o.data = .seq its.toArray n := by
  rcases q with q | ⟨o, its, n, e, hc, hd, _, hv⟩
  · obtain ⟨_, its, hv, o, e, hc, n, hd⟩ := (show ObjOk P w H h a (.tup xs) from q.ok hok)
    exact ⟨its, o, n, hv, e, hc, hd⟩
  · exact ⟨its.toList, o, n, hv, KX _ _ e, hc, by simp [hd]⟩
mutual
theorem Dw.reads (hok : HOk P w H h) (KX : K.In h) : ∀ (d : WData) (v : V) (u : Value), Dw K H v d → RelV v u → ∃ as, ReadsW R cl h u d as
  | .none, _, _, x, r => by
    cases x
    cases r
    exact ⟨_, ReadsW.none⟩
  | .bool b, _, _, x, r => by
    cases x
    cases r
    exact ⟨_, ReadsW.bool b⟩
  | .int i, _, _, x, r => by
    cases x
    obtain ⟨t, rfl⟩ := r
    exact ⟨_, ReadsW.int i t⟩
  | .str s, _, _, x, r => by
    cases x
    obtain ⟨t, rfl⟩ := r
    exact ⟨_, ReadsW.str s t⟩
  | .bytes b, _, _, x, r => by
    cases x
    obtain ⟨t, rfl⟩ := r
    exact ⟨_, ReadsW.bytes _ t⟩
  | .list ds, _, _, x, r => by
    cases x with
    | lst hs ha =>
      cases r
      obtain ⟨its, o, n, rv, ho, hc, hd⟩ := sqL_at hok KX hs
      obtain ⟨as, hr⟩ := Dw.readsAll hok KX ds _ its ha rv
      exact ⟨_, ReadsW.list ho hc hd hr⟩
  | .tuple ds, _, _, x, r => by
    cases x with
    | tup hs ha =>
      cases r
      obtain ⟨its, o, n, rv, ho, hc, hd⟩ := sqT_at hok KX hs
      obtain ⟨as, hr⟩ := Dw.readsAll hok KX ds _ its ha rv
      exact ⟨_, ReadsW.tuple ho hc hd hr⟩
  | .float _, _, _, x, _ => by cases x
  | .dict _, _, _, x, _ => by cases x
  | .bytearray _, _, _, x, _ => by cases x
  | .set _, _, _, x, _ => by cases x
  | .frozenset _, _, _, x, _ => by cases x
  | .obj _ _, _, _, x, _ => by cases x
theorem Dw.readsAll (hok : HOk P w H h) (KX : K.In h) : ∀ (ds : List WData) (vs : List V) (us : List Value), DwAll K H vs ds → Vals vs us → ∃ as, ReadsAllW R cl h us ds as
  | [], _, _, x, r => by
    cases x
    cases r
    exact ⟨_, ReadsAllW.nil⟩
  | d :: ds, _, _, x, r => by
    cases x with
    | cons h1 h2 =>
      cases r with
      | cons r1 r2 =>
        obtain ⟨as, q1⟩ := Dw.reads hok KX d _ _ h1 r1
        obtain ⟨bs, q2⟩ := Dw.readsAll hok KX ds _ _ h2 r2
        exact ⟨_, ReadsAllW.cons q1 q2⟩
end
end
/-! ### the arguments -/
mutual
/-- data that a codec tells -/
noncomputable def plW : WData → Bool
  | .none => true
  | .bool _ => true
  | .int _ => true
  | .str _ => true
  | .bytes _ => true
  | .list xs => plWs xs
  | .tuple xs => plWs xs
  | _ => false
noncomputable def plWs : List WData → Bool
  | [] => true
  | x :: r => plW x && plWs r
end
theorem plWs_map {α : Type} {f : α → WData} (h : ∀ a, plW (f a) = true) : ∀ l : List α, plWs (l.map f) = true
  | [] => rfl
  | x :: r => by
    show (plW (f x) && plWs (r.map f)) = true
    rw [h x, plWs_map h r] <;> rfl
theorem pl_enc : ∀ (c : Codec) (a : c.denote), plW (c.enc a) = true
  | .unit, _ => rfl
  | .bool, _ => rfl
  | .int _ _, _ => rfl
  | .nat _ _, _ => rfl
  | .u8, _ => rfl
  | .bytes _ _, _ => rfl
  | .text _ _ _ _, _ => rfl
  | .list _ _ c, a => plWs_map (fun x => pl_enc c x) a
  | .pair c d, a => by
    show (plW (c.enc a.1) && (plW (d.enc a.2) && true)) = true
    rw [pl_enc c a.1, pl_enc d a.2] <;> rfl
  | .triple c d e, a => by
    show (plW (c.enc a.1) && (plW (d.enc a.2.1) && (plW (e.enc a.2.2) && true))) = true
    rw [pl_enc c a.1, pl_enc d a.2.1, pl_enc e a.2.2] <;> rfl
  | .option c, none => rfl
  | .option c, some x => pl_enc c x
theorem pl_encAll : ∀ (cs : List Codec) (a : Codec.denoteAll cs), plWs (Codec.encAll cs a) = true
  | [], _ => rfl
  | c :: cs, a => by
    show (plW (c.enc a.1) && plWs (Codec.encAll cs a.2)) = true
    rw [pl_enc c a.1, pl_encAll cs a.2] <;> rfl
theorem weight_mem : ∀ {xs : List WData} {d : WData}, d ∈ xs → d.weight ≤ WData.weightAll xs
  | [], d, h => absurd h (by simp)
  | x :: r, d, h => by
    show d.weight ≤ x.weight + 1 + WData.weightAll r
    rcases List.mem_cons.mp h with e | m
    · rw [e]
      omega
    · have z := weight_mem m
      omega
noncomputable def toV : Value → V
  | .none => .non
  | .bool b => .bl b
  | .int i _ => .int i
  | .str x _ => .str x
  | .bytes b _ => .byt b
  | .ref a => .ref a
  | _ => .non
/-- a value of the arguments, its objects among A -/
noncomputable def OkU (A : List Addr) : Value → Prop
  | .none => True
  | .bool _ => True
  | .int _ _ => True
  | .str _ _ => True
  | .bytes _ _ => True
  | .ref a => a ∈ A
  | _ => False
theorem OkU.mono {A B : List Addr} (h : ∀ a ∈ A, a ∈ B) : ∀ {u : Value}, OkU A u → OkU B u := fun {u} x => by
  cases u with
  | ref a => exact h a x
  | none => trivial
  | bool b => trivial
  | int i t => trivial
  | str s t => trivial
  | bytes b t => trivial
  | _ => exact False.elim x
theorem relV_toV {A : List Addr} {u : Value} (x : OkU A u) : RelV (toV u) u := by
  cases u with
  | ref a => rfl
  | none => rfl
  | bool b => rfl
  | int i t => exact ⟨t, rfl⟩
  | str s t => exact ⟨t, rfl⟩
  | bytes b t => exact ⟨t, rfl⟩
  | _ => exact False.elim x
theorem vals_toV {A : List Addr} : ∀ {vs : List Value}, (∀ u ∈ vs, OkU A u) → Vals (vs.map toV) vs
  | [], _ => .nil
  | u :: r, h => .cons (relV_toV (h u (List.mem_cons_self ..))) (vals_toV fun x hx => h x (List.mem_cons_of_mem _ hx))
/-- an object of the arguments -/
noncomputable def ArgOb (h : Heap) (A : List Addr) (a : Addr) : Prop := ∃ vs : List Value, vs.length ≤ sizeLine ∧ (∀ u ∈ vs, OkU A u) ∧
  (h.get? a = some { cls := .type "list", data := .seq vs.toArray } ∨ h.get? a = some { cls := .type "tuple", data := .seq vs.toArray })
theorem ArgOb.mono {h : Heap} {A B : List Addr} {a : Addr} (k : ∀ a ∈ A, a ∈ B) (x : ArgOb h A a) : ArgOb h B a := by
  obtain ⟨vs, h1, h2, h3⟩ := x
  exact ⟨vs, h1, fun u hu => (h2 u hu).mono k, h3⟩
theorem wellAll_len {P : Params} {h : Heap} : ∀ {vs : List Value} {ds : List WData}, WellAll P h vs ds → vs.length = ds.length
  | _, _, .nil => rfl
  | _, _, .cons _ b => by
    show _ + 1 = _ + 1
    rw [wellAll_len b]
theorem well_list {P : Params} {h : Heap} {v : Value} {ds : List WData} (x : Well P h v (.list ds)) : ∃ (a : Addr) (vs : List Value), v = .ref a ∧ h.get? a = some { cls := .type "list", data := .seq vs.toArray } ∧ WellAll P h vs ds := by
  cases x with
  | list ho hall => exact ⟨_, _, rfl, ho, hall⟩
theorem well_tuple {P : Params} {h : Heap} {v : Value} {ds : List WData} (x : Well P h v (.tuple ds)) : ∃ (a : Addr) (vs : List Value), v = .ref a ∧ h.get? a = some { cls := .type "tuple", data := .seq vs.toArray } ∧ WellAll P h vs ds := by
  cases x with
  | tuple ho hall => exact ⟨_, _, rfl, ho, hall⟩
theorem well_cons {P : Params} {h : Heap} {us : List Value} {d : WData} {ds : List WData} (x : WellAll P h us (d :: ds)) : ∃ (v : Value) (vs : List Value), us = v :: vs ∧ Well P h v d ∧ WellAll P h vs ds := by
  cases x with
  | cons a b => exact ⟨_, _, rfl, a, b⟩
theorem line_of {n : Nat} (h : n ≤ 1048576) : n ≤ sizeLine := Nat.le_trans h (by decide)
section
variable {P : Params} {h : Heap}
mutual
theorem area_one : ∀ (d : WData) (v : Value), Well P h v d → plW d = true → d.weight ≤ 1048576 → ∃ A : List Addr, OkU A v ∧ ∀ a ∈ A, ArgOb h A a
  | .none, _, x, _, _ => by
    cases x
    exact ⟨[], trivial, fun a m => absurd m (by simp)⟩
  | .bool b, _, x, _, _ => by
    cases x
    exact ⟨[], trivial, fun a m => absurd m (by simp)⟩
  | .int i, _, x, _, _ => by
    cases x
    exact ⟨[], trivial, fun a m => absurd m (by simp)⟩
  | .str s, _, x, _, _ => by
    cases x
    exact ⟨[], trivial, fun a m => absurd m (by simp)⟩
  | .bytes b, _, x, _, _ => by
    cases x
    exact ⟨[], trivial, fun a m => absurd m (by simp)⟩
  | .list ds, _, x, p, z => by
    obtain ⟨a, vs, rfl, ho, hall⟩ := well_list x
    have z2 : WData.weightAll ds ≤ 1048576 := z
    obtain ⟨A, h1, h2⟩ := area_all ds _ hall p fun d hd => Nat.le_trans (weight_mem hd) z2
    have k : ∀ b ∈ A, b ∈ a :: A := fun b hb => List.mem_cons_of_mem _ hb
    refine ⟨a :: A, List.mem_cons_self .., fun b hb => ?_⟩
    rcases List.mem_cons.mp hb with e | m
    · rw [e]
      exact ⟨vs, line_of (by rw [wellAll_len hall]; exact Nat.le_trans (PySem.W.length_le_weightAllW ds) z2), fun u hu => (h1 u hu).mono k, .inl ho⟩
    · exact (h2 b m).mono k
  | .tuple ds, _, x, p, z => by
    obtain ⟨a, vs, rfl, ho, hall⟩ := well_tuple x
    have z2 : WData.weightAll ds ≤ 1048576 := z
    obtain ⟨A, h1, h2⟩ := area_all ds _ hall p fun d hd => Nat.le_trans (weight_mem hd) z2
    have k : ∀ b ∈ A, b ∈ a :: A := fun b hb => List.mem_cons_of_mem _ hb
    refine ⟨a :: A, List.mem_cons_self .., fun b hb => ?_⟩
    rcases List.mem_cons.mp hb with e | m
    · rw [e]
      exact ⟨vs, line_of (by rw [wellAll_len hall]; exact Nat.le_trans (PySem.W.length_le_weightAllW ds) z2), fun u hu => (h1 u hu).mono k, .inr ho⟩
    · exact (h2 b m).mono k
  | .float _, _, _, p, _ => Bool.noConfusion (show false = true from p)
  | .dict _, _, _, p, _ => Bool.noConfusion (show false = true from p)
  | .bytearray _, _, _, p, _ => Bool.noConfusion (show false = true from p)
  | .set _, _, _, p, _ => Bool.noConfusion (show false = true from p)
  | .frozenset _, _, _, p, _ => Bool.noConfusion (show false = true from p)
  | .obj _ _, _, _, p, _ => Bool.noConfusion (show false = true from p)
theorem area_all : ∀ (ds : List WData) (vs : List Value), WellAll P h vs ds → plWs ds = true → (∀ d ∈ ds, d.weight ≤ 1048576) → ∃ A : List Addr, (∀ u ∈ vs, OkU A u) ∧ ∀ a ∈ A, ArgOb h A a
  | [], _, x, _, _ => by
    cases x
    exact ⟨[], fun u m => absurd m (by simp), fun a m => absurd m (by simp)⟩
  | d :: ds, _, x, p, z => by
    obtain ⟨v, vs, rfl, x1, x2⟩ := well_cons x
    have q : plW d = true ∧ plWs ds = true := Bool.and_eq_true_iff.mp p
    obtain ⟨A, a1, a2⟩ := area_one d v x1 q.1 (z d (List.mem_cons_self ..))
    obtain ⟨B, b1, b2⟩ := area_all ds vs x2 q.2 fun e he => z e (List.mem_cons_of_mem _ he)
    have kA : ∀ b ∈ A, b ∈ A ++ B := fun b hb => List.mem_append.mpr (.inl hb)
    have kB : ∀ b ∈ B, b ∈ A ++ B := fun b hb => List.mem_append.mpr (.inr hb)
    refine ⟨A ++ B, fun u hu => ?_, fun b hb => ?_⟩
    · rcases List.mem_cons.mp hu with e | m
      · rw [e]
        exact a1.mono kA
      · exact (b1 u m).mono kB
    · rcases List.mem_append.mp hb with m | m
      · exact (a2 b m).mono kA
      · exact (b2 b m).mono kB
end
end
/-- what is tracked of an argument's object -/
noncomputable def hoOf (o : Obj) : Option HO := match o.data with
  | .seq vs _ => if (o.cls == Value.type "list") = true then some (.frz o (.lst (vs.toList.map toV))) else some (.frz o (.tup (vs.toList.map toV)))
  | _ => none
noncomputable def argH (K : PySem.W.Frag) (h : Heap) (A : List Addr) : Hp := fun b => if b ∈ A then (if (K.lookup b).isNone = true then (h.get? b).bind hoOf else none) else none
/-- nothing is tracked but what is known to the object -/
noncomputable def OnlyF (H : Hp) : Prop := ∀ b, H b = none ∨ ∃ o u, H b = some (.frz o u)
theorem hoOf_lst (vs : List Value) : hoOf { cls := .type "list", data := .seq vs.toArray } = some (.frz { cls := .type "list", data := .seq vs.toArray } (.lst (vs.map toV))) := by
  show (if (Value.type "list" == Value.type "list") = true then some (HO.frz { cls := .type "list", data := .seq vs.toArray } (.lst (vs.toArray.toList.map toV))) else some (HO.frz { cls := .type "list", data := .seq vs.toArray } (.tup (vs.toArray.toList.map toV)))) = _
  rw [if_pos (beq_self_eq_true _)]
theorem hoOf_tup (vs : List Value) : hoOf { cls := .type "tuple", data := .seq vs.toArray } = some (.frz { cls := .type "tuple", data := .seq vs.toArray } (.tup (vs.map toV))) := by
  show (if (Value.type "tuple" == Value.type "list") = true then some (HO.frz { cls := .type "tuple", data := .seq vs.toArray } (.lst (vs.toArray.toList.map toV))) else some (HO.frz { cls := .type "tuple", data := .seq vs.toArray } (.tup (vs.toArray.toList.map toV)))) = _
  rw [if_neg (by decide)]
section
variable {P : Program} {w : World} {K : PySem.W.Frag} {h : Heap} {A : List Addr}
theorem argH_at {b : Addr} {o : Obj} (hb : b ∈ A) (hk : K.lookup b = none) (e : h.get? b = some o) : argH K h A b = hoOf o := by
  unfold argH
  rw [if_pos hb, hk, if_pos (show (none : Option Obj).isNone = true from rfl), e] <;> rfl
theorem of_argH {b : Addr} {u : HO} (q : argH K h A b = some u) : b ∈ A ∧ K.lookup b = none := by
  unfold argH at q
  by_cases hb : b ∈ A
  · rw [if_pos hb] at q
    cases hk : K.lookup b with
    | none => exact ⟨hb, rfl⟩
    | some o =>
      rw [hk, if_neg (by simp)] at q
      cases q
  · rw [if_neg hb] at q
    cases q
/-- what stands tracked -/
theorem argH_is (ar : ∀ a ∈ A, ArgOb h A a) {b : Addr} {u : HO} (q : argH K h A b = some u) : K.lookup b = none ∧ ∃ vs : List Value, vs.length ≤ sizeLine ∧ (∀ u ∈ vs, OkU A u) ∧
    ((h.get? b = some { cls := .type "list", data := .seq vs.toArray } ∧ u = .frz { cls := .type "list", data := .seq vs.toArray } (.lst (vs.map toV))) ∨
     (h.get? b = some { cls := .type "tuple", data := .seq vs.toArray } ∧ u = .frz { cls := .type "tuple", data := .seq vs.toArray } (.tup (vs.map toV)))) := by
  obtain ⟨hb, hk⟩ := of_argH q
  obtain ⟨vs, h1, h2, h3⟩ := ar b hb
  refine ⟨hk, vs, h1, h2, ?_⟩
  rcases h3 with e | e
  · rw [argH_at hb hk e, hoOf_lst] at q
    exact .inl ⟨e, (Option.some.inj q).symm⟩
  · rw [argH_at hb hk e, hoOf_tup] at q
    exact .inr ⟨e, (Option.some.inj q).symm⟩
theorem argH_only (ar : ∀ a ∈ A, ArgOb h A a) : OnlyF (argH K h A) := fun b => by
  cases q : argH K h A b with
  | none => exact .inl rfl
  | some u =>
    obtain ⟨_, vs, _, _, ⟨_, e⟩ | ⟨_, e⟩⟩ := argH_is ar q
    · exact .inr ⟨_, _, by rw [e]⟩
    · exact .inr ⟨_, _, by rw [e]⟩
theorem argH_ok (ar : ∀ a ∈ A, ArgOb h A a) : HOk P w (argH K h A) h := fun b u q => by
  obtain ⟨_, vs, h1, h2, ⟨e, rfl⟩ | ⟨e, rfl⟩⟩ := argH_is ar q
  · exact ⟨e, by rw [List.length_map]; exact h1, vs, _, vals_toV h2, e⟩
  · exact ⟨e, by rw [List.length_map]; exact h1, vs, vals_toV h2, _, e, rfl, _, rfl⟩
theorem seq_inj {c c' : Value} {vs us : List Value} (e : (some { cls := c, data := .seq vs.toArray } : Option Obj) = some { cls := c', data := .seq us.toArray }) : c = c' ∧ vs = us := by
  have e1 := Option.some.inj e
  have e2 : c = c' := congrArg Obj.cls e1
  have e3 : Data.seq vs.toArray = Data.seq us.toArray := congrArg Obj.data e1
  injection e3 with e4
  refine ⟨e2, ?_⟩
  have e5 := congrArg Array.toList e4
  simpa using e5
/-- a list argument -/
theorem argL (KX : K.In h) (ar : ∀ a ∈ A, ArgOb h A a) {a : Addr} {vs : List Value} (ha : a ∈ A) (e : h.get? a = some { cls := .type "list", data := .seq vs.toArray }) : (∀ u ∈ vs, OkU A u) ∧ SqL K (argH K h A) a (vs.map toV) := by
  obtain ⟨us, h1, h2, h3⟩ := ar a ha
  have hu : us = vs := by
    rcases h3 with q | q
    · rw [e] at q
      exact (seq_inj q).2.symm
    · rw [e] at q
      exact absurd (Value.type.inj (seq_inj q).1) (by decide)
  subst hu
  refine ⟨h2, ?_⟩
  cases hk : K.lookup a with
  | none => exact .inl (.inr ⟨_, by rw [argH_at ha hk e, hoOf_lst]⟩)
  | some o =>
    have e2 := KX a o hk
    rw [e] at e2
    obtain rfl := Option.some.inj e2
    exact .inr ⟨_, us.toArray, _, hk, rfl, rfl, rfl, by rw [List.size_toArray]; exact h1, by simpa using vals_toV h2⟩
theorem argT (KX : K.In h) (ar : ∀ a ∈ A, ArgOb h A a) {a : Addr} {vs : List Value} (ha : a ∈ A) (e : h.get? a = some { cls := .type "tuple", data := .seq vs.toArray }) : (∀ u ∈ vs, OkU A u) ∧ SqT K (argH K h A) a (vs.map toV) := by
  obtain ⟨us, h1, h2, h3⟩ := ar a ha
  have hu : us = vs := by
    rcases h3 with q | q
    · rw [e] at q
      exact absurd (Value.type.inj (seq_inj q).1) (by decide)
    · rw [e] at q
      exact (seq_inj q).2.symm
  subst hu
  refine ⟨h2, ?_⟩
  cases hk : K.lookup a with
  | none => exact .inl (.inr ⟨_, by rw [argH_at ha hk e, hoOf_tup]⟩)
  | some o =>
    have e2 := KX a o hk
    rw [e] at e2
    obtain rfl := Option.some.inj e2
    exact .inr ⟨_, us.toArray, _, hk, rfl, rfl, by rw [List.size_toArray]; exact h1, by simpa using vals_toV h2⟩
mutual
theorem dw_one {Pm : Params} (KX : K.In h) (ar : ∀ a ∈ A, ArgOb h A a) : ∀ (d : WData) (v : Value), Well Pm h v d → plW d = true → OkU A v → Dw K (argH K h A) (toV v) d
  | .none, _, x, _, _ => by
    cases x
    exact .non
  | .bool b, _, x, _, _ => by
    cases x
    exact .bl b
  | .int i, _, x, _, _ => by
    cases x
    exact .int i
  | .str s, _, x, _, _ => by
    cases x
    exact .str s
  | .bytes b, _, x, _, _ => by
    cases x
    have z := Dw.byt (K := K) (H := argH K h A) b.toArray
    exact z
  | .list ds, _, x, p, hu => by
    obtain ⟨a, vs, rfl, ho, hall⟩ := well_list x
    obtain ⟨h2, hs⟩ := argL KX ar hu ho
    exact .lst hs (dw_all KX ar ds _ hall p h2)
  | .tuple ds, _, x, p, hu => by
    obtain ⟨a, vs, rfl, ho, hall⟩ := well_tuple x
    obtain ⟨h2, hs⟩ := argT KX ar hu ho
    exact .tup hs (dw_all KX ar ds _ hall p h2)
  | .float _, _, _, p, _ => Bool.noConfusion (show false = true from p)
  | .dict _, _, _, p, _ => Bool.noConfusion (show false = true from p)
  | .bytearray _, _, _, p, _ => Bool.noConfusion (show false = true from p)
  | .set _, _, _, p, _ => Bool.noConfusion (show false = true from p)
  | .frozenset _, _, _, p, _ => Bool.noConfusion (show false = true from p)
  | .obj _ _, _, _, p, _ => Bool.noConfusion (show false = true from p)
theorem dw_all {Pm : Params} (KX : K.In h) (ar : ∀ a ∈ A, ArgOb h A a) : ∀ (ds : List WData) (vs : List Value), WellAll Pm h vs ds → plWs ds = true → (∀ u ∈ vs, OkU A u) → DwAll K (argH K h A) (vs.map toV) ds
  | [], _, x, _, _ => by
    cases x
    exact .nil
  | d :: ds, _, x, p, hu => by
    obtain ⟨v, vs, rfl, x1, x2⟩ := well_cons x
    have q : plW d = true ∧ plWs ds = true := Bool.and_eq_true_iff.mp p
    exact .cons (dw_one KX ar d v x1 q.1 (hu _ (List.mem_cons_self ..))) (dw_all KX ar ds vs x2 q.2 fun u m => hu u (List.mem_cons_of_mem _ m))
end
end
/-! ### the call -/
theorem spec_call {P : Program} {w : World} {K : PySem.W.Frag} {mg mb : Str → Option Value} {CX : CXT} {k : Nat} {fa : Addr} {fd : FuncData} {ps : List Str} {sp : Sp} {s₁ : Shared} {vals : List Value} {ds : List WData} {R : PySem.W.WRecords} {cl : Str → Option Addr} {d0 : WData}
    (KX : K.In s₁.heap) (hns : s₁.heap.Ns mainGlobals mg) (hb : s₁.heap.Ns builtinsNs mb) (hbb : ∀ x : Str, x ≠ "__name__" → mb x = bootBuiltins x) (hlim : s₁.heap.NoLimit) (hg : s₁.gens = #[])
    (hwl : WellAll w.params s₁.heap vals ds) (hpl : plWs ds = true) (hwt : ∀ d ∈ ds, d.weight ≤ 1048576) (hr : Room k callerA)
    (F : ∀ base : Heap, K.In base → base.Ns mainGlobals mg → FnOk P w K mg base CX k fa fd ps sp) (hbind : ∀ (s : Shared) (us : List Value), us.length = ps.length → BindsTo s fd ⟨us, []⟩ (ps.zip us)) (hlen : ds.length = ps.length)
    (hsp : ∀ (H : Hp) (xs : List V), OnlyF H → DwAll K H xs ds → sp xs H (fun v H' => Dw K H' v d0) fun _ _ _ => False)
    (hCX : ∀ H e s', CX [] H s₁ (fun _ _ _ => False) e s' → False) :
    codeAny (model P w) callerA (.call (.ref fa) ⟨vals, []⟩) (fun r s' => ∃ u as, r = .ok (.ret u) ∧ ReadsW R cl s'.heap u d0 as ∧ OldK s₁.heap s'.heap ∧ s'.os = s₁.os ∧ AllBare s'.gens) s₁ := by
  obtain ⟨A, ho, ar⟩ := area_all ds vals hwl hpl hwt
  have hO : OnlyF (argH K s₁.heap A) := argH_only ar
  have hok : HOk P w (argH K s₁.heap A) s₁.heap := argH_ok ar
  have hS := dw_all KX ar ds vals hwl hpl ho
  have hV := vals_toV ho
  have hK : ∀ b u, argH K s₁.heap A b = some u → K.lookup b = none := fun b u q => (argH_is ar q).1
  have noA : ∀ {b : Addr} {o : Obj} {es : Array DictEntry} {ep : Nat}, s₁.heap.get? b = some o → o.data = .dict es ep → argH K s₁.heap A b = none := fun {b o es ep} e d => by
    cases q : argH K s₁.heap A b with
    | none => rfl
    | some u =>
      obtain ⟨_, vs, _, _, ⟨e2, _⟩ | ⟨e2, _⟩⟩ := argH_is ar q
      · rw [e2] at e
        cases e
        have d' : Data.seq vs.toArray _ = Data.dict es ep := d
        cases d'
      · rw [e2] at e
        cases e
        have d' : Data.seq vs.toArray _ = Data.dict es ep := d
        cases d'
  generalize argH K s₁.heap A = H at hO hok hS hK noA
  have base_of : ∀ {b : Addr} {o : Obj}, s₁.heap.get? b = some o → H b = none → (hidT s₁.heap H).get? b = some o := fun e n => hidT_get e n
  have nsK : ∀ {b : Addr} {m : Str → Option Value}, s₁.heap.Ns b m → (hidT s₁.heap H).Ns b m := fun {b m} ⟨o, es, ep, e, d, r⟩ => ⟨o, es, ep, base_of e (noA e d), d, r⟩
  have nK : ∀ b o, K.lookup b = some o → H b = none := fun b o e => by
    cases q : H b with
    | none => rfl
    | some u =>
      rw [hK b u q] at e
      cases e
  have hKb : K.In (hidT s₁.heap H) := fun b o e => base_of (KX b o e) (nK b o e)
  have hM : Mod K mg (hidT s₁.heap H) := ⟨hKb, nsK hns, ⟨mb, nsK hb, hbb⟩, let ⟨mc, h1, h2⟩ := hlim; ⟨mc, nsK h1, h2⟩⟩
  have e0 : Env0 P w K mg (hidT s₁.heap H) callerA [] s₁ H := ⟨rfl, hM, fun b o e => of_hidT e, Nat.le_of_eq (hidT_size _ _), trivial, fun b hb => absurd (show b ∈ ([] : List Addr) from hb) (by simp), hok, .of_eq hg⟩
  have hl : vals.length = ps.length := by rw [wellAll_len hwl]; exact hlen
  refine codeAny_mono ((F _ hKb (nsK hns)).run callerA [] s₁ H ⟨vals, []⟩ vals (vals.map toV) _ _ hr e0 (hbind s₁ vals hl) hV (hsp H _ hO hS)) fun r s' x => ?_
  cases r with
  | error e => exact (hCX H e s' x).elim
  | ok fl =>
    cases fl with
    | next => exact False.elim x
    | brk => exact False.elim x
    | cont => exact False.elim x
    | ret u =>
      obtain ⟨v, H', os, bare, un, hok', r', q⟩ := x
      have kept : ∀ b o, s₁.heap.get? b = some o → s'.heap.get? b = some o := fun b o e => by
        cases q2 : H b with
        | none => exact un.keep b o e q2 (by intro z; exact absurd (show b ∈ ([] : List Addr) from z) (by simp)) (by simp)
        | some u2 =>
          rcases hO b with z | ⟨ob, u3, z⟩
          · rw [q2] at z
            cases z
          · have z2 := un.frzs b ob _ z
            obtain ⟨e1, _⟩ := hok b _ z
            obtain ⟨e2, _⟩ := hok' b _ z2
            rw [e] at e1
            cases e1
            exact e2
      have KX' : K.In s'.heap := fun b o e => kept b o (KX b o e)
      obtain ⟨as, hrd⟩ := Dw.reads (R := R) (cl := cl) hok' KX' d0 v u q r'
      exact ⟨u, as, rfl, hrd, OldK.of_keep kept, os, bare⟩
/-! ### the row -/
theorem layable_weight {ds : List WData} (h : WData.layableAll ds = true) : ∀ d ∈ ds, d.weight ≤ 1048576 := fun d hd =>
  (PySem.W.layableW_iff.mp (List.all_eq_true.mp h d hd)).2.2
theorem encAll_len : ∀ (cs : List Codec) (a : Codec.denoteAll cs), (Codec.encAll cs a).length = cs.length
  | [], _ => rfl
  | c :: cs, a => by
    show (Codec.encAll cs a.2).length + 1 = cs.length + 1
    rw [encAll_len cs a.2]
/-- the goal that k_headS leaves (case hc), from the promise of the row's def: whatever the arguments that the codecs let and the row asks for, the def gives what stands for enc (f ..) -/
theorem walk_spec {r : OpenSpec} {k : Nat} {q : Program} {loose : List Str} {XP : (Str → Option Value) → Heap → Prop} {YP : World → Heap → Prop} {d : DefRec} {K : Params → PySem.W.Frag} {CX : World → CXT} {ps : List Str} {sp : World → Sp}
    (hwell : r.wellSaid = true) (hdf : d.params.defaults = []) (hlen : r.args.length = ps.length) (hr : Room k callerA)
    (hY : ∀ (w : World) (h : Heap), YP w h → (K w.params).In h)
    (F : ∀ (w : World) (mg : Str → Option Value) (fa : Addr) (h : Heap), YP w h → (K w.params).In h → h.Ns mainGlobals mg → mg d.name = some (.ref fa) →
      ∃ fd : FuncData, (∀ (s : Shared) (us : List Value), us.length = ps.length → BindsTo s fd ⟨us, []⟩ (ps.zip us)) ∧
        ∀ base : Heap, (K w.params).In base → base.Ns mainGlobals mg → FnOk r.prog w (K w.params) mg base (CX w) k fa fd ps (sp w))
    (hsp : ∀ (w : World) (H : Hp) (xs : List V) (a : Codec.denoteAll r.args), OnlyF H → Codec.withinAll r.args a = true → Codec.app r.args r.asked a = true → DwAll (K w.params) H xs (Codec.encAll r.args a) →
      sp w xs H (fun v H' => Dw (K w.params) H' v (r.ret.enc (Codec.app r.args r.f a))) fun _ _ _ => False)
    (hCX : ∀ (w : World) (H : Hp) (s : Shared) (e : Value) (s' : Shared), CX w [] H s (fun _ _ _ => False) e s' → False) :
    PySem.W.WalkOS q loose XP YP r d [] (fun f vs => PySem.call f vs) := by
  intro w s_0 s₁ mg mb G Y fa o pm cd doc dV kV ho hd hcd hD hmg hg args vals as hpre hlay hrd hwl hlo
  obtain ⟨a, e1, e2⟩ := PySem.W.os_pre_some hpre
  obtain ⟨e3, hwi⟩ := Codec.encAll_of_decAll r.args args a e1
  subst e3
  have KX := hY w _ Y
  obtain ⟨fd, hb, hF⟩ := F w mg fa _ Y KX G.T.g hmg
  refine PySem.W.enter_call (codeAny_mono (spec_call (R := []) (cl := classAt s_0.heap) (d0 := r.ret.enc (Codec.app r.args r.f a)) KX G.T.g G.T.b G.T.builtins G.T.nolimit hg hwl (pl_encAll _ _) (layable_weight hlay) hr hF hb (by rw [encAll_len]; exact hlen)
    (fun H xs hO hS => hsp w H xs a hO hwi e2 hS) fun H e s' => hCX w H s₁ e s') fun r' s' hq => ?_)
  obtain ⟨u, as', rfl, h1, h2, h3, h4⟩ := hq
  exact ⟨.inl ⟨u, _, as', rfl, fun _ => rfl, h1, (OpenSpec.post_iff hwell hwi _ _).mpr rfl, fun z => Bool.noConfusion (show false = true from z)⟩, h2, h3, h4⟩
/-- the same where the promise hangs on the written part alone -/
theorem walk_specK {r : OpenSpec} {k : Nat} {q : Program} {loose : List Str} {XP : (Str → Option Value) → Heap → Prop} {YP : World → Heap → Prop} {d : DefRec} {K : Params → PySem.W.Frag} {CX : CXT} {ps : List Str} {sp : PySem.W.Frag → Sp}
    (hwell : r.wellSaid = true) (hdf : d.params.defaults = []) (hlen : r.args.length = ps.length) (hr : Room k callerA)
    (hY : ∀ (w : World) (h : Heap), YP w h → (K w.params).In h)
    (F : ∀ (w : World) (mg : Str → Option Value) (fa : Addr) (h : Heap), YP w h → (K w.params).In h → h.Ns mainGlobals mg → mg d.name = some (.ref fa) →
      ∃ fd : FuncData, (∀ (s : Shared) (us : List Value), us.length = ps.length → BindsTo s fd ⟨us, []⟩ (ps.zip us)) ∧
        ∀ base : Heap, (K w.params).In base → base.Ns mainGlobals mg → FnOk r.prog w (K w.params) mg base CX k fa fd ps (sp (K w.params)))
    (hsp : ∀ (K : PySem.W.Frag) (H : Hp) (xs : List V) (a : Codec.denoteAll r.args), OnlyF H → Codec.withinAll r.args a = true → Codec.app r.args r.asked a = true → DwAll K H xs (Codec.encAll r.args a) →
      sp K xs H (fun v H' => Dw K H' v (r.ret.enc (Codec.app r.args r.f a))) fun _ _ _ => False)
    (hCX : ∀ (H : Hp) (s : Shared) (e : Value) (s' : Shared), CX [] H s (fun _ _ _ => False) e s' → False) :
    PySem.W.WalkOS q loose XP YP r d [] (fun f vs => PySem.call f vs) :=
  walk_spec (K := K) (CX := fun _ => CX) (sp := fun w => sp (K w.params)) hwell hdf hlen hr hY F (fun w H xs a h1 h2 h3 h4 => hsp (K w.params) H xs a h1 h2 h3 h4) fun _ H s e s' => hCX H s e s'
end L2
end


set_option Elab.async false
set_option linter.all false
namespace Mth
open Kp318
theorem foldl_w : ∀ (l : List Plan) (c : Nat), l.foldl (fun (a : Nat) (p : Plan) => a + p.weight) c = c + total l
  | [], c => rfl
  | p :: l, c => by
    show l.foldl _ (c + p.weight) = c + l.foldl _ (0 + p.weight)
    rw [foldl_w l, foldl_w l]; omega
theorem total_nil : total [] = 0 := rfl
theorem total_cons (p : Plan) (l : List Plan) : total (p :: l) = p.weight + total l := by
  show l.foldl _ (0 + p.weight) = _
  rw [foldl_w]; omega
noncomputable def hp (p : Plan) : Plan := ⟨p.set / 2, p.weight⟩
theorem has_half (s t : Nat) : has (s / 2) t = has s (t + 1) := by
  unfold has
  rw [Nat.div_div_eq_div_mul, Nat.pow_succ, Nat.mul_comm]
theorem total_half : ∀ l : List Plan, total (l.map hp) = total l
  | [] => rfl
  | p :: l => by
    rw [List.map_cons, total_cons, total_cons, total_half l]; rfl
theorem with_half (l : List Plan) (t : Nat) : (with_ l (t + 1)).map hp = with_ (l.map hp) t := by
  unfold with_
  rw [List.filter_map]
  congr 1
  apply List.filter_congr
  intro p _
  exact (has_half p.set t).symm
theorem without_half (l : List Plan) (t : Nat) : (without l (t + 1)).map hp = without (l.map hp) t := by
  unfold without
  rw [List.filter_map]
  congr 1
  apply List.filter_congr
  intro p _
  show (!has p.set (t+1)) = (!has (p.set / 2) t)
  rw [has_half]
theorem reply_half (b : Nat) : ∀ (f t : Nat) (l : List Plan) (k : Nat), replyUp b f (t + 1) l k = replyUp b f t (l.map hp) k
  | 0, _, _, _ => rfl
  | f + 1, t, l, k => by
    unfold replyUp
    have e : (l.map hp).isEmpty = l.isEmpty := by cases l <;> rfl
    have w1 : total (with_ (l.map hp) t) = total (with_ l (t+1)) := by rw [← with_half, total_half]
    have w2 : total (without (l.map hp) t) = total (without l (t+1)) := by rw [← without_half, total_half]
    rw [e, w1, w2]
    simp only [reply_half b f (t+1), with_half, without_half]
theorem reply_nil (b : Nat) : ∀ (f t k : Nat), replyUp b f t [] k = 0
  | 0, _, _ => rfl
  | f + 1, t, k => rfl
theorem reply_none (b : Nat) : ∀ (f t : Nat) (l : List Plan), replyUp b f t l 0 = 0
  | 0, _, _ => rfl
  | f + 1, t, l => by
    unfold replyUp
    simp only [reply_none b f]
    simp
/-! even and odd numbers -/
theorem has_even (s : Nat) : has (2 * s) 0 = false := by
  unfold has; simp
theorem has_odd (s : Nat) : has (2 * s + 1) 0 = true := by
  unfold has
  have : (2 * s + 1) / 2 ^ 0 % 2 = 1 := by rw [Nat.pow_zero, Nat.div_one]; omega
  rw [this]; rfl
theorem evens : ∀ N : Nat, (List.range (2 * N)).filter (fun s => !has s 0) = (List.range N).map (fun s => 2 * s)
  | 0 => rfl
  | N + 1 => by
    have e : 2 * (N + 1) = 2 * N + 1 + 1 := by omega
    rw [e, List.range_succ, List.range_succ, List.filter_append, List.filter_append, evens N, List.range_succ, List.map_append]
    simp [has_even, has_odd]
theorem odds : ∀ N : Nat, (List.range (2 * N)).filter (fun s => has s 0) = (List.range N).map (fun s => 2 * s + 1)
  | 0 => rfl
  | N + 1 => by
    have e : 2 * (N + 1) = 2 * N + 1 + 1 := by omega
    rw [e, List.range_succ, List.range_succ, List.filter_append, List.filter_append, odds N, List.range_succ, List.map_append]
    simp [has_even, has_odd]
theorem size_succ (n s : Nat) : size (n + 1) s = (if has s 0 then 1 else 0) + size n (s / 2) := by
  unfold size
  rw [List.range_succ_eq_map, List.filter_cons, List.filter_map]
  have e : (has s ∘ Nat.succ) = has (s / 2) := by
    funext t
    exact (has_half s t).symm
  rw [e]
  split
  · rw [List.length_cons, List.length_map]; omega
  · rw [List.length_map]; omega
theorem size_even (n s : Nat) : size (n + 1) (2 * s) = size n s := by
  rw [size_succ, has_even]
  have : 2 * s / 2 = s := by omega
  simp [this]
theorem size_odd (n s : Nat) : size (n + 1) (2 * s + 1) = size n s + 1 := by
  rw [size_succ, has_odd]
  have : (2 * s + 1) / 2 = s := by omega
  rw [this]
  simp; omega
theorem fair_without (n m b : Nat) : (without (fair (n + 1) m b) 0).map hp = fair n m b := by
  unfold without fair
  rw [List.filter_map, List.filter_filter, List.map_map]
  have e2 : 2 ^ (n + 1) = 2 * 2 ^ n := by rw [Nat.pow_succ, Nat.mul_comm]
  have sw : (List.range (2 ^ (n + 1))).filter (fun a => ((fun (p : Plan) => !has p.set 0) ∘ fun s => (⟨s, b ^ (m - size (n + 1) s)⟩ : Plan)) a && decide (size (n + 1) a ≤ m))
      = ((List.range (2 ^ (n + 1))).filter (fun s => !has s 0)).filter (fun s => decide (size (n + 1) s ≤ m)) := by
    rw [List.filter_filter]
    apply List.filter_congr
    intro a _
    show ((!has a 0) && _) = _
    rw [Bool.and_comm]
  rw [sw, e2, evens, List.filter_map, List.map_map]
  congr 1
  · funext s
    show (⟨2 * s / 2, b ^ (m - size (n + 1) (2 * s))⟩ : Plan) = ⟨s, b ^ (m - size n s)⟩
    rw [size_even]
    congr 1
    omega
  · apply List.filter_congr
    intro s _
    show decide (size (n + 1) (2 * s) ≤ m) = _
    rw [size_even]
theorem fair_with (n m b : Nat) : (with_ (fair (n + 1) (m + 1) b) 0).map hp = fair n m b := by
  unfold with_ fair
  rw [List.filter_map, List.filter_filter, List.map_map]
  have e2 : 2 ^ (n + 1) = 2 * 2 ^ n := by rw [Nat.pow_succ, Nat.mul_comm]
  have sw : (List.range (2 ^ (n + 1))).filter (fun a => ((fun (p : Plan) => has p.set 0) ∘ fun s => (⟨s, b ^ (m + 1 - size (n + 1) s)⟩ : Plan)) a && decide (size (n + 1) a ≤ m + 1))
      = ((List.range (2 ^ (n + 1))).filter (fun s => has s 0)).filter (fun s => decide (size (n + 1) s ≤ m + 1)) := by
    rw [List.filter_filter]
    apply List.filter_congr
    intro a _
    show (has a 0 && _) = _
    rw [Bool.and_comm]
  rw [sw, e2, odds, List.filter_map, List.map_map]
  congr 1
  · funext s
    show (⟨(2 * s + 1) / 2, b ^ (m + 1 - size (n + 1) (2 * s + 1))⟩ : Plan) = ⟨s, b ^ (m - size n s)⟩
    rw [size_odd]
    congr 1
    · omega
    · congr 1; omega
  · apply List.filter_congr
    intro s _
    show decide (size (n + 1) (2 * s + 1) ≤ m + 1) = _
    rw [size_odd]
    simp
theorem fair_with0 (n b : Nat) : with_ (fair (n + 1) 0 b) 0 = [] := by
  unfold with_ fair
  rw [List.filter_map, List.filter_filter]
  have : (List.range (2 ^ (n + 1))).filter (fun a => ((fun (p : Plan) => has p.set 0) ∘ fun s => (⟨s, b ^ (0 - size (n + 1) s)⟩ : Plan)) a && decide (size (n + 1) a ≤ 0)) = [] := by
    rw [List.filter_eq_nil_iff]
    intro a _ h
    have h1 := (Bool.and_eq_true _ _ ▸ h).1
    have h2 := of_decide_eq_true (Bool.and_eq_true _ _ ▸ h).2
    have h1' : has a 0 = true := h1
    rw [size_succ, h1'] at h2
    simp at h2
  rw [this]; rfl
theorem total_split : ∀ (l : List Plan) (t : Nat), total l = total (with_ l t) + total (without l t)
  | [], _ => rfl
  | p :: l, t => by
    have ih := total_split l t
    unfold with_ without at ih ⊢
    rw [total_cons, List.filter_cons, List.filter_cons]
    cases h : has p.set t <;> simp [total_cons] <;> omega
theorem size_zero (s : Nat) : size 0 s = 0 := rfl
theorem fair_zero (m b : Nat) : fair 0 m b = [⟨0, b ^ m⟩] := by
  unfold fair
  simp [size_zero, List.range_succ]
/-! heavy -/
theorem sum_foldl : ∀ (l : List Nat) (c : Nat), l.foldl (fun (a b : Nat) => a + b) c = c + Kp317.sum l
  | [], c => rfl
  | x :: l, c => by
    show l.foldl _ (c + x) = c + l.foldl _ (0 + x)
    rw [sum_foldl l, sum_foldl l]; omega
theorem sum_cons (x : Nat) (l : List Nat) : Kp317.sum (x :: l) = x + Kp317.sum l := by
  show l.foldl _ (0 + x) = _
  rw [sum_foldl]; omega
theorem sum_nil : Kp317.sum [] = 0 := rfl
theorem sum_append : ∀ (l r : List Nat), Kp317.sum (l ++ r) = Kp317.sum l + Kp317.sum r
  | [], r => by rw [List.nil_append, sum_nil]; omega
  | x :: l, r => by rw [List.cons_append, sum_cons, sum_cons, sum_append l r]; omega
theorem sum_map_mul (b : Nat) (g : Nat → Nat) : ∀ l : List Nat, Kp317.sum (l.map fun i => b * g i) = b * Kp317.sum (l.map g)
  | [] => rfl
  | x :: l => by rw [List.map_cons, List.map_cons, sum_cons, sum_cons, sum_map_mul b g l, Nat.mul_add]
theorem heavy_zero_looks (n b : Nat) : Kp317.heavy n 0 b = 1 := by
  unfold Kp317.heavy
  have : Kp317.choose n 0 = 1 := by cases n <;> rfl
  simp [List.range_succ, sum_cons, sum_nil, this]
/-- one more look -/
theorem heavy_looks (n m b : Nat) : Kp317.heavy n (m + 1) b = b * Kp317.heavy n m b + Kp317.choose n (m + 1) := by
  unfold Kp317.heavy
  rw [List.range_succ (n := m + 1), List.map_append, sum_append]
  have e : (List.range (m + 1)).map (fun i => Kp317.choose n i * b ^ (m + 1 - i)) = (List.range (m + 1)).map (fun i => b * (Kp317.choose n i * b ^ (m - i))) := by
    apply List.map_congr_left
    intro i hi
    have hi' : i < m + 1 := List.mem_range.mp hi
    have : m + 1 - i = (m - i) + 1 := by omega
    rw [this, Nat.pow_succ, ← Nat.mul_assoc, Nat.mul_comm _ b]
  rw [e, sum_map_mul]
  simp [sum_cons, sum_nil]
/-- one more day -/
theorem heavy_days (n m b : Nat) : Kp317.heavy (n + 1) (m + 1) b = Kp317.heavy n m b + Kp317.heavy n (m + 1) b := by
  induction m with
  | zero =>
    rw [heavy_looks, heavy_looks, heavy_zero_looks, heavy_zero_looks]
    show b * 1 + (Kp317.choose n 0 + Kp317.choose n 1) = _
    have : Kp317.choose n 0 = 1 := by cases n <;> rfl
    rw [this]
    show b * 1 + (1 + Kp317.choose n 1) = 1 + (b * 1 + Kp317.choose n 1)
    omega
  | succ m ih =>
    rw [heavy_looks (n + 1), ih, heavy_looks n (m + 1), Nat.mul_add]
    show _ + (Kp317.choose n (m + 1) + Kp317.choose n (m + 1 + 1)) = _
    have := heavy_looks n m b
    omega
theorem choose_zero (k : Nat) : Kp317.choose 0 (k + 1) = 0 := rfl
theorem choose_succ (n k : Nat) : Kp317.choose (n + 1) (k + 1) = Kp317.choose n k + Kp317.choose n (k + 1) := rfl
theorem choose_one (n : Nat) : Kp317.choose n 1 = n := by
  induction n with
  | zero => rfl
  | succ n ih =>
    rw [choose_succ, ih]
    have : Kp317.choose n 0 = 1 := by cases n <;> rfl
    omega
theorem heavy_no_days (m b : Nat) : Kp317.heavy 0 m b = b ^ m := by
  induction m with
  | zero => rw [heavy_zero_looks]; rfl
  | succ m ih => rw [heavy_looks, ih, choose_zero, Nat.pow_succ, Nat.mul_comm]; omega
theorem total_fair : ∀ (n m b : Nat), total (fair n m b) = Kp317.heavy n m b
  | 0, m, b => by rw [fair_zero, heavy_no_days, total_cons, total_nil]; rfl
  | n + 1, 0, b => by
    rw [total_split _ 0, fair_with0, ← total_half (without _ _), fair_without, total_fair n 0 b, heavy_zero_looks, heavy_zero_looks]; rfl
  | n + 1, m + 1, b => by
    rw [total_split _ 0, ← total_half (with_ _ _), fair_with, ← total_half (without _ _), fair_without, total_fair n m b, total_fair n (m + 1) b, heavy_days]
theorem fair_ne (n m b : Nat) : (fair n m b).isEmpty = false := by
  induction n generalizing m with
  | zero => rw [fair_zero]; rfl
  | succ n ih =>
    have h := fair_without n m b
    have i := ih m
    cases e : fair (n + 1) m b with
    | nil => rw [e] at h; rw [← h] at i; cases i
    | cons => rfl
/-- what the best plan leaves, in whole weights -/
theorem reply_fair (b : Nat) : ∀ (n m k : Nat), replyUp b n 0 (fair n m b) k = (Kp317.choose n (m + 1) : Int) - Kp317.choose (n - k) (m + 1)
  | 0, m, k => by
    show (0 : Int) = _
    rw [Nat.zero_sub]; omega
  | n + 1, m, 0 => by rw [reply_none]; simp
  | n + 1, 0, k + 1 => by
    unfold replyUp
    rw [fair_ne]
    have h1 := reply_fair b n 0 (k + 1)
    have h2 := reply_fair b n 0 k
    simp only [reply_half, fair_with0, fair_without, List.map_nil, reply_nil, total_nil, h1]
    rw [← total_half (without _ _), fair_without, total_fair, heavy_zero_looks]
    simp only [Nat.add_sub_cancel, h2]
    have e : (n + 1) - (k + 1) = n - k := by omega
    rw [e]
    simp only [Bool.false_eq_true, if_false, Nat.zero_add, choose_one]
    rw [if_neg (by omega)]
    omega
  | n + 1, m + 1, k + 1 => by
    unfold replyUp
    rw [fair_ne]
    have h1 := reply_fair b n (m + 1) (k + 1)
    have h2 := reply_fair b n (m + 1) k
    have h3 := reply_fair b n m (k + 1)
    simp only [reply_half, fair_with, fair_without, h1, h3]
    rw [← total_half (without _ _), fair_without, ← total_half (with_ _ _), fair_with, total_fair, total_fair]
    simp only [Nat.add_sub_cancel, h2]
    have e : (n + 1) - (k + 1) = n - k := by omega
    rw [e]
    simp only [Bool.false_eq_true, if_false]
    rw [if_neg (by omega)]
    have hl := heavy_looks n m b
    have c1 := choose_succ n (m + 1)
    have hl' : (Kp317.heavy n (m + 1) b : Int) = b * Kp317.heavy n m b + Kp317.choose n (m + 1) := by exact_mod_cast hl
    rw [hl', c1]
    by_cases hk : k < n
    · have e3 : n - k = (n - (k + 1)) + 1 := by omega
      have c2 := choose_succ (n - (k + 1)) (m + 1)
      rw [e3, c2]
      omega
    · have e3 : n - k = 0 := by omega
      have e4 : n - (k + 1) = 0 := by omega
      rw [e3, e4, choose_zero, choose_zero]
      omega
end Mth

set_option Elab.async false
set_option linter.all false
namespace Mth
open Kp318
/-! fractions -/
theorem red_scale {g : Nat} (hg : 0 < g) (a : Int) (b : Nat) : Kp317.red ((g : Int) * a) (g * b) = Kp317.red a b := by
  unfold Kp317.red
  have e : ((g : Int) * a).natAbs = g * a.natAbs := by rw [Int.natAbs_mul]; rfl
  rw [e, Nat.gcd_mul_left]
  congr 1
  · rw [Int.natCast_mul]
    exact Int.mul_ediv_mul_of_pos _ _ (by omega)
  · exact Nat.mul_div_mul_left _ _ hg
theorem red_parts (a : Int) {b : Nat} (hb : 0 < b) : ∃ g : Nat, 0 < g ∧ a = g * (Kp317.red a b).1 ∧ b = g * (Kp317.red a b).2 := by
  refine ⟨Nat.gcd a.natAbs b, Nat.gcd_pos_of_pos_right _ hb, ?_, ?_⟩
  · show a = _ * (a / _)
    refine (Int.mul_ediv_cancel' ?_).symm
    exact Int.ofNat_dvd_left.mpr (Nat.gcd_dvd_left _ _)
  · show b = _ * (b / _)
    exact (Nat.mul_div_cancel' (Nat.gcd_dvd_right _ _)).symm
theorem sub_red (a c : Int) {b d : Nat} (hb : 0 < b) (hd : 0 < d) : Kp317.sub (Kp317.red a b) (Kp317.red c d) = Kp317.red (a * d - c * b) (b * d) := by
  obtain ⟨g, hg, ea, eb⟩ := red_parts a hb
  obtain ⟨h, hh, ec, ed⟩ := red_parts c hd
  unfold Kp317.sub
  generalize Kp317.red a b = x at *
  generalize Kp317.red c d = y at *
  have e1 : a * d - c * b = ((g * h : Nat) : Int) * (x.1 * y.2 - y.1 * x.2) := by
    rw [ea, ec, ed, eb]
    push_cast
    rw [Int.mul_sub]
    congr 1 <;> ac_rfl
  have e2 : b * d = (g * h) * (x.2 * y.2) := by rw [eb, ed]; ac_rfl
  rw [e1, e2, red_scale (Nat.mul_pos hg hh)]
theorem red_zero {b : Nat} (hb : 0 < b) : Kp317.red 0 b = (0, 1) := by
  unfold Kp317.red
  simp [Nat.gcd_zero_left, Nat.div_self hb]
/-! the closed forms, by the best plan's own lists -/
theorem worth_eq (n m k b : Nat) : Kp317.worth n m k b = Kp317.red (replyUp b n 0 (fair n m b) k) (total (fair n m b)) := by
  unfold Kp317.worth
  rw [reply_fair, total_fair]
theorem heavy_pos {b : Nat} (hb : 0 < b) : ∀ (n m : Nat), 0 < Kp317.heavy n m b
  | n, 0 => by rw [heavy_zero_looks]; omega
  | n, m + 1 => by
    rw [heavy_looks]
    have := Nat.mul_pos hb (heavy_pos hb n m)
    omega
theorem look_eq {n b : Nat} (m : Nat) (hn : 0 < n) (hb : 0 < b) : Kp317.look n m b = Kp317.red (total (with_ (fair n m b) 0)) (total (fair n m b)) := by
  obtain ⟨n, rfl⟩ : ∃ j, n = j + 1 := ⟨n - 1, by omega⟩
  unfold Kp317.look
  cases m with
  | zero =>
    rw [fair_with0, total_nil, total_fair]
    rw [if_pos (Or.inr rfl)]
    exact (red_zero (heavy_pos hb _ _)).symm
  | succ m =>
    rw [if_neg (by omega), ← total_half (with_ _ _), fair_with, total_fair, total_fair]
    rfl
theorem filter_range_eq (P : Nat → Bool) (s : Nat) : ∀ N : Nat, s < N → ((List.range N).filter P).filter (fun x => x == s) = if P s then [s] else []
  | 0, h => by omega
  | N + 1, h => by
    rw [List.range_succ, List.filter_append, List.filter_append]
    by_cases e : s = N
    · subst e
      have : ((List.range s).filter P).filter (fun x => x == s) = [] := by
        rw [List.filter_filter, List.filter_eq_nil_iff]
        intro a ha
        have : a < s := List.mem_range.mp ha
        simp; omega
      rw [this]
      by_cases hp : P s <;> simp [hp]
    · rw [filter_range_eq P s N (by omega)]
      have : (([N] : List Nat).filter P).filter (fun x => x == s) = [] := by
        by_cases hp : P N <;> simp [hp]
        omega
      rw [this, List.append_nil]
theorem chance_eq {n s : Nat} (m b : Nat) (hs : s < 2 ^ n) : total ((fair n m b).filter fun p => p.set == s) = if size n s ≤ m then b ^ (m - size n s) else 0 := by
  unfold fair
  rw [List.filter_map]
  have e : ((fun p : Plan => p.set == s) ∘ fun x => (⟨x, b ^ (m - size n x)⟩ : Plan)) = fun x => x == s := rfl
  rw [e, filter_range_eq _ s _ hs]
  by_cases h : size n s ≤ m
  · simp [h, total_cons, total_nil]
  · simp [h, total_nil]
/-! sizes, step by step -/
theorem has_testBit (s t : Nat) : has s t = s.testBit t := by
  unfold has
  rw [Nat.testBit_eq_decide_div_mod_eq]
  by_cases h : s / 2 ^ t % 2 = 1 <;> simp [h]
theorem size_of_zero : ∀ n : Nat, size n 0 = 0
  | 0 => rfl
  | n + 1 => by
    rw [size_succ]
    have : has 0 0 = false := by unfold has; simp
    rw [this]
    simp [size_of_zero n]
theorem size_step {j r : Nat} (h : r < 2 ^ (j + 1)) : size (j + 1) r = r % 2 + size j (r / 2) ∧ r / 2 < 2 ^ j := by
  constructor
  · rw [size_succ]
    congr 1
    unfold has
    rw [Nat.pow_zero, Nat.div_one]
    by_cases e : r % 2 = 1
    · simp [e]
    · have : r % 2 = 0 := by omega
      simp [this]
  · have : 2 ^ (j + 1) = 2 * 2 ^ j := by rw [Nat.pow_succ, Nat.mul_comm]
    omega
theorem size_le : ∀ (n s : Nat), size n s ≤ n
  | n, s => by
    unfold size
    have := List.length_filter_le (has s) (List.range n)
    rw [List.length_range] at this
    exact this
/-! as seen -/
theorem seen_mod (p s t : Nat) (hs : s < 2 ^ t) : ((List.range t).all fun i => has p i == has s i) = decide (p % 2 ^ t = s) := by
  rw [Bool.eq_iff_iff, decide_eq_true_iff, List.all_eq_true]
  constructor
  · intro h
    apply Nat.eq_of_testBit_eq
    intro i
    rw [Nat.testBit_mod_two_pow]
    by_cases hi : i < t
    · have q := h i (List.mem_range.mpr hi)
      have q' : has p i = has s i := eq_of_beq q
      rw [has_testBit, has_testBit] at q'
      simp [hi, q']
    · have : s.testBit i = false := Nat.testBit_lt_two_pow (Nat.lt_of_lt_of_le hs (Nat.pow_le_pow_right (by omega) (by omega)))
      simp [hi, this]
  · intro h i hi
    have hi' : i < t := List.mem_range.mp hi
    rw [has_testBit, has_testBit, ← h, Nat.testBit_mod_two_pow]
    simp [hi']
end Mth

set_option Elab.async false
set_option linter.all false
namespace Mth
open Kp318
/-- a call as it is handed in: its number, its whole numbers, what it is -/
inductive Req : Int → List Int → Call → Prop
  | begin_ (n k b : Nat) : Req 0 [(n : Int), (k : Int), (b : Int)] (.begin_ n k b)
  | plan (s w : Nat) : Req 1 [(s : Int), (w : Int)] (.plan s w)
  | drop (i : Nat) : Req 2 [(i : Int)] (.drop i)
  | weight (i w : Nat) : Req 3 [(i : Int), (w : Int)] (.weight i w)
  | misdeeds (k : Nat) : Req 4 [(k : Int)] (.misdeeds k)
  | fine (b : Nat) : Req 5 [(b : Int)] (.fine b)
  | fair (m : Nat) : Req 6 [(m : Int)] (.fair m)
  | reply : Req 7 [] .reply
  | dares : Req 8 [] .dares
  | seen (t s k : Nat) : Req 9 [(t : Int), (s : Int), (k : Int)] (.seen t s k)
  | looked (t : Nat) : Req 10 [(t : Int)] (.looked t)
  | mean : Req 11 [] .mean
  | most : Req 12 [] .most
  | worth (m : Nat) : Req 13 [(m : Int)] (.worth m)
  | over : Req 14 [] .over
  | bestChance (m s : Nat) : Req 15 [(m : Int), (s : Int)] (.bestChance m s)
  | bestLooked (m : Nat) : Req 16 [(m : Int)] (.bestLooked m)
  | caught : Req 17 [] .caught
  | done : Req 18 [] .done
  | unlooked : Req 19 [] .unlooked
  | told : Req 20 [] .told
theorem nat_of {z : Int} (h : Kp318Neutral.natural z = true) : ∃ n : Nat, z = (n : Int) := by
  unfold Kp318Neutral.natural at h
  rw [Bool.and_eq_true] at h
  have := of_decide_eq_true h.1
  exact ⟨z.toNat, by omega⟩
theorem a2 {x y : Int} (h : (Kp318Neutral.natural x && Kp318Neutral.natural y) = true) : ∃ a b : Nat, x = (a : Int) ∧ y = (b : Int) := by
  rw [Bool.and_eq_true] at h
  obtain ⟨a, rfl⟩ := nat_of h.1
  obtain ⟨b, rfl⟩ := nat_of h.2
  exact ⟨a, b, rfl, rfl⟩
theorem a3 {x y z : Int} (h : (Kp318Neutral.natural x && (Kp318Neutral.natural y && Kp318Neutral.natural z)) = true) : ∃ a b c : Nat, x = (a : Int) ∧ y = (b : Int) ∧ z = (c : Int) := by
  rw [Bool.and_eq_true] at h
  obtain ⟨a, rfl⟩ := nat_of h.1
  obtain ⟨b, c, rfl, rfl⟩ := a2 h.2
  exact ⟨a, b, c, rfl, rfl, rfl⟩
theorem l0 {α : Type} {l : List α} (h : l.length = 0) : l = [] := List.length_eq_zero_iff.mp h
theorem l1 {α : Type} {l : List α} (h : l.length = 1) : ∃ a, l = [a] := by
  cases l with
  | nil => cases h
  | cons a r => exact ⟨a, by rw [l0 (Nat.succ.inj h)]⟩
theorem l2 {α : Type} {l : List α} (h : l.length = 2) : ∃ a b, l = [a, b] := by
  cases l with
  | nil => cases h
  | cons a r =>
    obtain ⟨b, rfl⟩ := l1 (Nat.succ.inj h)
    exact ⟨a, b, rfl⟩
theorem l3 {α : Type} {l : List α} (h : l.length = 3) : ∃ a b c, l = [a, b, c] := by
  cases l with
  | nil => cases h
  | cons a r =>
    obtain ⟨b, c, rfl⟩ := l2 (Nat.succ.inj h)
    exact ⟨a, b, c, rfl⟩
/-- what is wanted of a call as it stands in the list -/
noncomputable def Known (p : Int) (args : List Int) : Prop := PyKp318.whole [p :: args] = [p :: args] ∧ (Kp318Neutral.asked1 [p :: args] = true → ∃ c, Req p args c)
theorem known0 (x y z : Int) : Known 0 [x, y, z] := ⟨rfl, fun h => by
  obtain ⟨a, b, c, rfl, rfl, rfl⟩ := a3 h
  exact ⟨_, .begin_ a b c⟩⟩
theorem known1 (x y : Int) : Known 1 [x, y] := ⟨rfl, fun h => by
  obtain ⟨a, b, rfl, rfl⟩ := a2 h
  exact ⟨_, .plan a b⟩⟩
theorem known2 (x : Int) : Known 2 [x] := ⟨rfl, fun h => by
  obtain ⟨a, rfl⟩ := nat_of h
  exact ⟨_, .drop a⟩⟩
theorem known3 (x y : Int) : Known 3 [x, y] := ⟨rfl, fun h => by
  obtain ⟨a, b, rfl, rfl⟩ := a2 h
  exact ⟨_, .weight a b⟩⟩
theorem known4 (x : Int) : Known 4 [x] := ⟨rfl, fun h => by
  obtain ⟨a, rfl⟩ := nat_of h
  exact ⟨_, .misdeeds a⟩⟩
theorem known5 (x : Int) : Known 5 [x] := ⟨rfl, fun h => by
  obtain ⟨a, rfl⟩ := nat_of h
  exact ⟨_, .fine a⟩⟩
theorem known6 (x : Int) : Known 6 [x] := ⟨rfl, fun h => by
  obtain ⟨a, rfl⟩ := nat_of h
  exact ⟨_, .fair a⟩⟩
theorem known7 : Known 7 [] := ⟨rfl, fun _ => ⟨_, .reply⟩⟩
theorem known8 : Known 8 [] := ⟨rfl, fun _ => ⟨_, .dares⟩⟩
theorem known9 (x y z : Int) : Known 9 [x, y, z] := ⟨rfl, fun h => by
  obtain ⟨a, b, c, rfl, rfl, rfl⟩ := a3 h
  exact ⟨_, .seen a b c⟩⟩
theorem known10 (x : Int) : Known 10 [x] := ⟨rfl, fun h => by
  obtain ⟨a, rfl⟩ := nat_of h
  exact ⟨_, .looked a⟩⟩
theorem known11 : Known 11 [] := ⟨rfl, fun _ => ⟨_, .mean⟩⟩
theorem known12 : Known 12 [] := ⟨rfl, fun _ => ⟨_, .most⟩⟩
theorem known13 (x : Int) : Known 13 [x] := ⟨rfl, fun h => by
  obtain ⟨a, rfl⟩ := nat_of h
  exact ⟨_, .worth a⟩⟩
theorem known14 : Known 14 [] := ⟨rfl, fun _ => ⟨_, .over⟩⟩
theorem known15 (x y : Int) : Known 15 [x, y] := ⟨rfl, fun h => by
  obtain ⟨a, b, rfl, rfl⟩ := a2 h
  exact ⟨_, .bestChance a b⟩⟩
theorem known16 (x : Int) : Known 16 [x] := ⟨rfl, fun h => by
  obtain ⟨a, rfl⟩ := nat_of h
  exact ⟨_, .bestLooked a⟩⟩
theorem known17 : Known 17 [] := ⟨rfl, fun _ => ⟨_, .caught⟩⟩
theorem known18 : Known 18 [] := ⟨rfl, fun _ => ⟨_, .done⟩⟩
theorem known19 : Known 19 [] := ⟨rfl, fun _ => ⟨_, .unlooked⟩⟩
theorem known20 : Known 20 [] := ⟨rfl, fun _ => ⟨_, .told⟩⟩
theorem at0 {q p : Int} {args : List Int} {n : Nat} {o : Option (Nat × Nat)} (k : Known q []) (h : (if p = q then some (0, 0) else o) = some (n, 0)) (hl : args.length = n) (go : o = some (n, 0) → Known p args) : Known p args := by
  by_cases c : p = q
  · rw [if_pos c] at h
    cases h
    rw [c, l0 hl]
    exact k
  · rw [if_neg c] at h
    exact go h
theorem at1 {q p : Int} {args : List Int} {n : Nat} {o : Option (Nat × Nat)} (k : ∀ x, Known q [x]) (h : (if p = q then some (1, 0) else o) = some (n, 0)) (hl : args.length = n) (go : o = some (n, 0) → Known p args) : Known p args := by
  by_cases c : p = q
  · rw [if_pos c] at h
    cases h
    obtain ⟨x, rfl⟩ := l1 hl
    rw [c]
    exact k x
  · rw [if_neg c] at h
    exact go h
theorem at2 {q p : Int} {args : List Int} {n : Nat} {o : Option (Nat × Nat)} (k : ∀ x y, Known q [x, y]) (h : (if p = q then some (2, 0) else o) = some (n, 0)) (hl : args.length = n) (go : o = some (n, 0) → Known p args) : Known p args := by
  by_cases c : p = q
  · rw [if_pos c] at h
    cases h
    obtain ⟨x, y, rfl⟩ := l2 hl
    rw [c]
    exact k x y
  · rw [if_neg c] at h
    exact go h
theorem at3 {q p : Int} {args : List Int} {n : Nat} {o : Option (Nat × Nat)} (k : ∀ x y z, Known q [x, y, z]) (h : (if p = q then some (3, 0) else o) = some (n, 0)) (hl : args.length = n) (go : o = some (n, 0) → Known p args) : Known p args := by
  by_cases c : p = q
  · rw [if_pos c] at h
    cases h
    obtain ⟨x, y, z, rfl⟩ := l3 hl
    rw [c]
    exact k x y z
  · rw [if_neg c] at h
    exact go h
theorem known {p : Int} {args : List Int} {n : Nat} (h : PyKp318.shape p = some (n, 0)) (hl : args.length = n) : Known p args := by
  unfold PyKp318.shape at h
  refine at3 known0 h hl fun h => ?_
  refine at2 known1 h hl fun h => ?_
  refine at1 known2 h hl fun h => ?_
  refine at2 known3 h hl fun h => ?_
  refine at1 known4 h hl fun h => ?_
  refine at1 known5 h hl fun h => ?_
  refine at1 known6 h hl fun h => ?_
  refine at0 known7 h hl fun h => ?_
  refine at0 known8 h hl fun h => ?_
  refine at3 known9 h hl fun h => ?_
  refine at1 known10 h hl fun h => ?_
  refine at0 known11 h hl fun h => ?_
  refine at0 known12 h hl fun h => ?_
  refine at1 known13 h hl fun h => ?_
  refine at0 known14 h hl fun h => ?_
  refine at2 known15 h hl fun h => ?_
  refine at1 known16 h hl fun h => ?_
  refine at0 known17 h hl fun h => ?_
  refine at0 known18 h hl fun h => ?_
  refine at0 known19 h hl fun h => ?_
  refine at0 known20 h hl fun h => ?_
  cases h
theorem Req.call {p : Int} {args : List Int} {c : Call} (r : Req p args c) : Kp318Neutral.callOf [p :: args] = some c := by
  cases r <;> rfl
theorem Req.step {p : Int} {args : List Int} {c : Call} (r : Req p args c) (st : State) : Kp318Neutral.step st [p :: args] = ((Kp318.step st c).1, (Kp318.step st c).2.num :: (Kp318.step st c).2.nums) := by
  unfold Kp318Neutral.step
  rw [r.call]
/-- the first call, and what is behind it -/
theorem calls_cons {f : Nat} {p : Int} {r : List Int} {cs : List (List (List Int))} (h : PyFlat.calls PyKp318.shape (f + 1) (p :: r) = some cs) {n : Nat} (hs : PyKp318.shape p = some (n, 0)) :
    n ≤ r.length ∧ ∃ cs', cs = [p :: r.take n] :: cs' ∧ PyFlat.calls PyKp318.shape f (r.drop n) = some cs' := by
  simp only [PyFlat.calls, PyFlat.call, hs] at h
  by_cases hl : r.length < n
  · rw [if_pos hl] at h
    cases h
  · rw [if_neg hl] at h
    simp only [PyFlat.rows] at h
    cases e : PyFlat.calls PyKp318.shape f (r.drop n) with
    | none => rw [e] at h; cases h
    | some cs' =>
      rw [e] at h
      exact ⟨by omega, cs', (Option.some.inj h).symm, rfl⟩
theorem if_some {c : Prop} [Decidable c] {a : Nat × Nat} {o : Option (Nat × Nat)} (ha : a.2 = 0) (h : ∀ y, o = some y → y.2 = 0) : ∀ y, (if c then some a else o) = some y → y.2 = 0 := by
  intro y e
  by_cases hc : c
  · rw [if_pos hc] at e
    rw [← Option.some.inj e]
    exact ha
  · rw [if_neg hc] at e
    exact h y e
theorem shape_all (p : Int) : ∀ y, PyKp318.shape p = some y → y.2 = 0 := by
  unfold PyKp318.shape
  repeat (refine if_some rfl ?_)
  intro y e
  cases e
theorem shape_rows {p : Int} {x : Nat × Nat} (h : PyKp318.shape p = some x) : x.2 = 0 := shape_all p x h
theorem calls_none {f : Nat} {p : Int} {r : List Int} {cs : List (List (List Int))} (h : PyFlat.calls PyKp318.shape f (p :: r) = some cs) : ∃ f' n cs', f = f' + 1 ∧ PyKp318.shape p = some (n, 0) ∧ n ≤ r.length ∧ cs = [p :: r.take n] :: cs' ∧ PyFlat.calls PyKp318.shape f' (r.drop n) = some cs' := by
  cases f with
  | zero => unfold PyFlat.calls at h; cases h
  | succ f =>
    cases e : PyKp318.shape p with
    | none =>
      simp only [PyFlat.calls, PyFlat.call, e] at h
      cases h
    | some x =>
      obtain ⟨n, k⟩ := x
      have k0 : k = 0 := shape_rows e
      subst k0
      obtain ⟨h1, cs', h2, h3⟩ := calls_cons h e
      exact ⟨f, n, cs', rfl, rfl, h1, h2, h3⟩
theorem calls_nil (f : Nat) : PyFlat.calls PyKp318.shape f [] = some [] := by cases f <;> rfl
theorem told_cons (a : List Int) (l : List (List Int)) : PyFlat.told (a :: l) = ((a.length : Int) :: a) ++ PyFlat.told l := rfl
theorem whole_calls (f : Nat) : ∀ (l : List Int) (cs : List (List (List Int))), PyFlat.calls PyKp318.shape f l = some cs → cs.map PyKp318.whole = cs := by
  induction f with
  | zero =>
    intro l cs h
    cases l with
    | nil =>
      cases h
      rfl
    | cons p r => cases h
  | succ f ih =>
    intro l cs h
    cases l with
    | nil =>
      cases h
      rfl
    | cons p r =>
      obtain ⟨f', n, cs', e, hs, hn, rfl, h'⟩ := calls_none h
      cases e
      have k := (known hs (show (r.take n).length = n by rw [List.length_take, Nat.min_eq_left hn])).1
      rw [List.map_cons, k, ih _ cs' h']
theorem answers_eq {l : List Int} {cs : List (List (List Int))} (h : PyFlat.calls PyKp318.shape l.length l = some cs) : PyKp318.answers l = PyFlat.told (PyFlat.played Kp318Neutral.step none cs) := by
  unfold PyKp318.answers PyKp318.calls
  rw [h]
  show PyFlat.told (PyFlat.played Kp318Neutral.step Kp318Neutral.start (cs.map PyKp318.whole)) = _
  rw [whole_calls _ _ _ h]
  rfl
theorem asked_calls {l : List Int} (h : PyKp318.answers_asked l = true) : ∃ cs, PyFlat.calls PyKp318.shape l.length l = some cs ∧ (PyKp318.answers l).length ≤ 10000000 ∧ ∀ c ∈ cs, Kp318Neutral.asked1 c = true := by
  unfold PyKp318.answers_asked at h
  cases e : PyFlat.calls PyKp318.shape l.length l with
  | none => rw [e] at h; cases h
  | some cs =>
    rw [e] at h
    have h : (!cs.isEmpty && PyFlat.atMost 60 cs && PyInside.calls PyKp318.bound cs && Kp318Neutral.asked (cs.map PyKp318.whole) && PyFlat.short 10000000 (PyKp318.answers l)) = true := h
    rw [whole_calls _ _ _ e, Bool.and_eq_true, Bool.and_eq_true] at h
    obtain ⟨⟨_, hA⟩, hS⟩ := h
    unfold Kp318Neutral.asked at hA
    rw [Bool.and_eq_true, Bool.and_eq_true] at hA
    exact ⟨cs, rfl, of_decide_eq_true hS, fun c hc => List.all_eq_true.mp hA.2.2 c hc⟩
end Mth

set_option Elab.async false
set_option linter.all false
set_option maxRecDepth 100000
set_option maxHeartbeats 2000000
namespace Pl
open PySem PySem.Spec PyProof.Rows L2
/-! ### the text by places -/
noncomputable def top (i : Nat) : Stmt := PySem.Challenge.pw_plansoflooks_s01_answers.main.body.getD i (.Pass ⟨0, 0, 0, 0⟩)
/-! ### readings by a lemma: a field, a method; what they ask of numbers -/
theorem r_fld {K : PySem.W.Frag} {σ : L2.St} {H : Hp} {Q : VK} {i : Nat} {a C dx : Addr} {fs : List (Str × V)} {v : V} {f : Str} (e : σ[i]? = some (some (.ref a))) (ho : H a = some (.ins C dx fs)) (cl : Cls K C) (na : NoAttr K C f) (lk : fs.lookup f = some v) (q : Q v H) : tFld K (tVar i) f σ H Q :=
  ⟨_, e, a, C, dx, fs, v, rfl, ho, cl, na, lk, q⟩
theorem r_meth {C : Addr} {m : Str} {sp : Sp} {dvs : List V} {E : XK} {t : TA} {σ : L2.St} {H : Hp} {Q : VK} {i : Nat} {a dx : Addr} {fs : List (Str × V)} (e : σ[i]? = some (some (.ref a))) (ho : H a = some (.ins C dx fs)) (lk : fs.lookup m = none)
    (q : t σ H fun vs H2 => sp (.ref a :: (vs ++ dvs)) H2 Q E) : tMeth C m sp dvs E (tVar i) t σ H Q := ⟨_, e, a, dx, fs, rfl, ho, lk, q⟩
theorem r_cmpVF {K : PySem.W.Frag} {σ : L2.St} {H : Hp} {Q : Bool → Hp → Prop} {g : Int → Int → Bool} {i k : Nat} {a C dx : Addr} {fs : List (Str × V)} {x y : Int} {f : Str} (e1 : σ[i]? = some (some (.int x))) (e2 : σ[k]? = some (some (.ref a))) (ho : H a = some (.ins C dx fs)) (cl : Cls K C) (na : NoAttr K C f)
    (lk : fs.lookup f = some (.int y)) (q : Q (g x y) H) : tTest (tOp (rI0 fun i j => .bl (g i j)) (tVar i) (tFld K (tVar k) f)) σ H Q := ⟨_, e1, r_fld e2 ho cl na lk ⟨_, _, rfl, rfl, _, rfl, q⟩⟩
/-- the first statement, what is behind it a letter -/
theorem seq_open {t u : TS} {D : Ends} {σ : L2.St} {H : Hp} (h : ∀ U : TS, U = u → t { D with nx := U D } σ H) : tSeq t u D σ H := h u rfl
theorem seq_openN {t u : TS} {D D' : Ends} {σ : L2.St} {H : Hp} (h : ∀ U : TS, U = u → t { D with nx := U D } σ H) : tNext { D' with nx := tSeq t u D } σ H := h u rfl
theorem days_less {n t j : Nat} (h : t < n) (hf : n - t ≤ j) : n - (t + 1) + 1 ≤ j := by omega
theorem mul_l {n : Nat} {j : Int} (h : n ≤ 1000000000) : CMul (n : Int) j := .inl ⟨by omega, by omega⟩
theorem mul_r {n : Nat} {i : Int} (h : n ≤ 1000000000) : CMul i (n : Int) := .inr ⟨by omega, by omega⟩
theorem int_eq {a b : Nat} (c : V.int (a : Int) = V.int (b : Int)) : a = b := by
  injection c with c
  omega
theorem int_zero {a : Nat} (c : V.int (a : Int) = V.int 0) : a = 0 := by
  injection c with c
  omega
theorem lt_of_int {a b : Nat} (h : (a : Int) < (b : Int)) : a < b := by omega
theorem le_of_int {a b : Nat} (h : (a : Int) ≤ (b : Int)) : a ≤ b := by omega
theorem not_lt_int {a b : Nat} (h : ¬ (a : Int) < (b : Int)) : b ≤ a := by omega
theorem not_le_int {a b : Nat} (h : ¬ (a : Int) ≤ (b : Int)) : b < a := by omega
/-! ### plans on the heap -/
noncomputable def TupAt (H : Hp) (r : Addr) (p : Kp318.Plan) : Prop := H r = some (.tup [.int (p.set : Int), .int (p.weight : Int)])
noncomputable def PL (H : Hp) (l : Addr) (ps : List Kp318.Plan) : Prop := ∃ rs : List Addr, H l = some (.lst (rs.map V.ref)) ∧ Paired (TupAt H) rs ps
theorem pairedSame {H H' : Hp} (e : Same H H') {rs : List Addr} {ps : List Kp318.Plan} (h : Paired (TupAt H) rs ps) : Paired (TupAt H') rs ps := Paired.mapP h fun _ _ q => e _ _ q
theorem PL.same {H H' : Hp} {l : Addr} {ps : List Kp318.Plan} (e : Same H H') (h : PL H l ps) : PL H' l ps := by
  obtain ⟨rs, h1, h2⟩ := h
  exact ⟨rs, e _ _ h1, pairedSame e h2⟩
theorem same_new {H : Hp} {p : Addr} (h : H p = none) (o : HO) : Same H (upd H p o) := fun b u q => by rw [upd_ne (ne_of_none q h)]; exact q
theorem ref_at {rs : List Addr} {i : Nat} {x : V} (h : (rs.map V.ref)[i]? = some x) : ∃ r, rs[i]? = some r ∧ x = .ref r := by
  rw [List.getElem?_map] at h
  cases e : rs[i]? with
  | none => rw [e] at h; cases h
  | some r => rw [e] at h; exact ⟨r, rfl, (Option.some.inj h).symm⟩
theorem take_snoc {α : Type} : ∀ {l : List α} {i : Nat} {x : α}, l[i]? = some x → l.take (i + 1) = l.take i ++ [x]
  | [], i, x, h => by simp at h
  | a :: l, 0, x, h => by
    have e : a = x := Option.some.inj h
    subst e
    rfl
  | a :: l, i + 1, x, h => by
    have ih := take_snoc (l := l) (i := i) (x := x) h
    show a :: l.take (i + 1) = a :: l.take i ++ [x]
    rw [ih]
    rfl
/-- what a filter comprehension has, by the turn -/
structure Filt (H1 : Hp) (D : Addr) (ps : List Kp318.Plan) (c : Kp318.Plan → Bool) (i : Nat) (H : Hp) : Prop where
  same : Same H1 H
  acc : ∃ rs : List Addr, H D = some (.lst (rs.map V.ref)) ∧ Paired (TupAt H1) rs ((ps.take i).filter c)
theorem Filt.start {H1 : Hp} {D : Addr} {ps : List Kp318.Plan} {c : Kp318.Plan → Bool} (hD : H1 D = none) : Filt H1 D ps c 0 (upd H1 D (.lst [])) :=
  ⟨same_new hD _, [], upd_same, .nil⟩
theorem Filt.skip {H1 H : Hp} {D : Addr} {ps : List Kp318.Plan} {c : Kp318.Plan → Bool} {i : Nat} {p : Kp318.Plan} (F : Filt H1 D ps c i H) (hp : ps[i]? = some p) (hc : c p = false) : Filt H1 D ps c (i + 1) H := by
  obtain ⟨rs, h1, h2⟩ := F.acc
  refine ⟨F.same, rs, h1, ?_⟩
  rw [take_snoc hp, List.filter_append]
  simp [hc]
  exact h2
theorem Filt.push {H1 H : Hp} {D r : Addr} {ps : List Kp318.Plan} {c : Kp318.Plan → Bool} {i : Nat} {p : Kp318.Plan} (F : Filt H1 D ps c i H) (hD : H1 D = none) (hl : ps.length ≤ 1000) (hp : ps[i]? = some p) (hr : TupAt H1 r p) (hc : c p = true) :
    ∃ acc, H D = some (.lst acc) ∧ acc.length < sizeLine ∧ Filt H1 D ps c (i + 1) (upd H D (.lst (acc ++ [.ref r]))) := by
  obtain ⟨rs, h1, h2⟩ := F.acc
  refine ⟨_, h1, ?_, ⟨fun b o q => ?_, rs ++ [r], ?_, ?_⟩⟩
  · have e := Paired.length h2
    have e2 := List.length_filter_le c (ps.take i)
    have e3 : (ps.take i).length ≤ ps.length := by rw [List.length_take]; exact Nat.min_le_right _ _
    rw [List.length_map]
    exact small1000 (by omega)
  · rw [upd_ne (ne_of_none q hD)]
    exact F.same b o q
  · rw [upd_same, List.map_append]
    rfl
  · rw [take_snoc hp, List.filter_append]
    have e : ([p] : List Kp318.Plan).filter c = [p] := by simp [hc]
    rw [e]
    exact Paired.snoc h2 hr
theorem Filt.done {H1 H : Hp} {D : Addr} {ps : List Kp318.Plan} {c : Kp318.Plan → Bool} {n : Nat} (F : Filt H1 D ps c n H) (hn : n = ps.length) : PL H D (ps.filter c) := by
  obtain ⟨rs, h1, h2⟩ := F.acc
  rw [hn, List.take_length] at h2
  exact ⟨rs, h1, pairedSame F.same h2⟩
/-! ### what the defs promise -/
noncomputable def spHas : Sp := fun vs H Q _ => ∃ s d : Nat, vs = [.int (s : Int), .int (d : Int)] ∧ Q (.bl (Kp318.has s d)) H
noncomputable def spFits : Sp := fun vs H Q _ => ∃ s d : Nat, vs = [.int (s : Int), .int (d : Int)] ∧ Q (.bl (decide (s < 2 ^ d))) H
noncomputable def spSize : Sp := fun vs H Q _ => ∃ s n : Nat, vs = [.int (s : Int)] ∧ s < 2 ^ n ∧ Q (.int (Kp318.size n s : Int)) H
noncomputable def spPow : Sp := fun vs H Q _ => ∃ b t : Nat, vs = [.int (b : Int), .int (t : Int)] ∧ b ≤ 1000 ∧ t ≤ 1000 ∧ Q (.int ((b ^ t : Nat) : Int)) H
noncomputable def sets (n m : Nat) : List Nat := (List.range (2 ^ n)).filter fun s => decide (Kp318.size n s ≤ m)
noncomputable def spSets : Sp := fun vs H Q _ => ∃ n m : Nat, vs = [.int (n : Int), .int (m : Int)] ∧ n ≤ 6 ∧ ∀ (H' : Hp) (p : Addr), Same H H' → H p = none → H' p = some (.lst ((sets n m).map fun (s : Nat) => V.int (s : Int))) → Q (.ref p) H'
noncomputable def spBestPlan : Sp := fun vs H Q _ => ∃ n m b : Nat, vs = [.int (n : Int), .int (m : Int), .int (b : Int)] ∧ n ≤ 6 ∧ m ≤ 1000 ∧ b ≤ 1000 ∧ ∀ (H' : Hp) (p : Addr), Same H H' → H p = none → PL H' p (Kp318.fair n m b) → Q (.ref p) H'
noncomputable def spPart (sel : List Kp318.Plan → Nat → List Kp318.Plan) : Sp := fun vs H Q _ => ∃ (l : Addr) (d : Nat) (ps : List Kp318.Plan), vs = [.ref l, .int (d : Int)] ∧ PL H l ps ∧ ps.length ≤ 1000 ∧ ∀ (H' : Hp) (p : Addr), Same H H' → H p = none → PL H' p (sel ps d) → Q (.ref p) H'
noncomputable def agree (ps : List Kp318.Plan) (t s : Nat) : List Kp318.Plan := ps.filter fun p => decide (p.set % 2 ^ t = s)
noncomputable def spAgree : Sp := fun vs H Q _ => ∃ (l : Addr) (t s : Nat) (ps : List Kp318.Plan), vs = [.ref l, .int (t : Int), .int (s : Int)] ∧ t ≤ 1000 ∧ PL H l ps ∧ ps.length ≤ 1000 ∧ ∀ (H' : Hp) (p : Addr), Same H H' → H p = none → PL H' p (agree ps t s) → Q (.ref p) H'
noncomputable def spWeight : Sp := fun vs H Q _ => ∃ (l : Addr) (ps : List Kp318.Plan), vs = [.ref l] ∧ PL H l ps ∧ ps.length ≤ 1000 ∧ ∀ H' : Hp, Same H H' → Q (.int (Kp318.total ps : Int)) H'
/-! ### arithmetic -/
theorem has_int (s d : Nat) : decide (V.int (Builtin.bitAnd ((s : Int) / 2 ^ ((d : Int)).toNat) 1) = V.int 1) = Kp318.has s d := by
  rw [dec_int, bitAnd_m1, Int.toNat_natCast]
  unfold Kp318.has
  have e : ((s : Int) / 2 ^ d % 2) = ((s / 2 ^ d % 2 : Nat) : Int) := by push_cast; rfl
  rw [e]
  by_cases h : s / 2 ^ d % 2 = 1
  · rw [h]; rfl
  · have h0 : s / 2 ^ d % 2 = 0 := by omega
    rw [h0]; rfl
theorem fits_int (s d : Nat) : decide (V.int ((s : Int) / 2 ^ ((d : Int)).toNat) = V.int 0) = decide (s < 2 ^ d) := by
  rw [dec_int, Int.toNat_natCast]
  have e : ((s : Int) / 2 ^ d) = ((s / 2 ^ d : Nat) : Int) := by push_cast; rfl
  rw [e]
  have p : 0 < 2 ^ d := Nat.pow_pos (by omega)
  by_cases h : s < 2 ^ d
  · rw [Nat.div_eq_of_lt h, decide_eq_true h]; rfl
  · rw [decide_eq_false h]
    have q : 0 < s / 2 ^ d := Nat.div_pos (by omega) p
    have q' : ¬ ((s / 2 ^ d : Nat) : Int) = 0 := by omega
    exact beq_eq_false_iff_ne.mpr q'
theorem low_int (x : Nat) : Builtin.bitAnd (x : Int) 1 = ((x % 2 : Nat) : Int) := by
  rw [bitAnd_m1]; push_cast; rfl
theorem half_int (x : Nat) : (x : Int) / 2 ^ ((1 : Int)).toNat = ((x / 2 : Nat) : Int) := by
  show (x : Int) / 2 ^ 1 = _
  push_cast
  rfl
section
variable {P : Program} {w : World} {K : PySem.W.Frag} {mg : Str → Option Value} {base : Heap} {f : Addr} {fd : FuncData}
/-! ### has_day, fits, size -/
theorem scHas : FnScope ["days_of_set", "day"] ["days_of_set", "day"] (defScope (top 1)) := ⟨rfl, rfl, rfl, by decide +kernel, rfl, by decide +kernel, by decide +kernel⟩
theorem ok_has (F : Fun K "has_day" "has_day" (top 1) f fd) : FnOk P w K mg base CX0 1 f fd ["days_of_set", "day"] spHas := by
  refine F.ok scHas (fun vs H Q E h => ?_) (fun cdv A outer s0 H vs Q E hr h => ?_)
  · obtain ⟨s, d, rfl, _⟩ := h
    rfl
  · obtain ⟨s, d, rfl, q⟩ := h
    refine ⟨_, pss_one (ps_ret (pe_cmpR op_eq (pe_op op_and (pe_op op_shr (pv 0) (pv 1)) pe_int) pe_int (nomark _))), ?_⟩
    refine ⟨_, rfl, _, rfl, _, _, rfl, rfl, (by show (0 : Int) ≤ (d : Int); omega), _, _, rfl, rfl, rfl, ?_⟩
    have e := has_int s d
    have z : Q (.bl (decide (V.int (Builtin.bitAnd ((s : Int) / 2 ^ ((d : Int)).toNat) 1) = V.int 1))) H := by rw [e]; exact q
    exact z
theorem scFits : FnScope ["days_of_set", "days"] ["days_of_set", "days"] (defScope (top 2)) := ⟨rfl, rfl, rfl, by decide +kernel, rfl, by decide +kernel, by decide +kernel⟩
theorem ok_fits (F : Fun K "fits" "fits" (top 2) f fd) : FnOk P w K mg base CX0 1 f fd ["days_of_set", "days"] spFits := by
  refine F.ok scFits (fun vs H Q E h => ?_) (fun cdv A outer s0 H vs Q E hr h => ?_)
  · obtain ⟨s, d, rfl, _⟩ := h
    rfl
  · obtain ⟨s, d, rfl, q⟩ := h
    refine ⟨_, pss_one (ps_ret (pe_cmpR op_eq (pe_op op_shr (pv 0) (pv 1)) pe_int (nomark _))), ?_⟩
    refine ⟨_, rfl, _, rfl, _, _, rfl, rfl, (by show (0 : Int) ≤ (d : Int); omega), rfl, ?_⟩
    have z : Q (.bl (decide (V.int ((s : Int) / 2 ^ ((d : Int)).toNat) = V.int 0))) H := by rw [fits_int]; exact q
    exact z
theorem scSize : FnScope ["days_of_set", "held", "rest"] ["days_of_set"] (defScope (top 3)) := ⟨rfl, rfl, rfl, by decide +kernel, rfl, by decide +kernel, by decide +kernel⟩
theorem ok_size (F : Fun K "size" "size" (top 3) f fd) : FnOk P w K mg base CX0 1 f fd ["days_of_set"] spSize := by
  refine F.ok scSize (fun vs H Q E h => ?_) (fun cdv A outer s0 H vs Q E hr h => ?_)
  · obtain ⟨s, n, rfl, _⟩ := h
    rfl
  · obtain ⟨s, n, rfl, hn, q⟩ := h
    refine ⟨_, pss_cons (ps_set (i := 1) scSize.nd rfl (Or.inl rfl) pe_int) (pss_cons (ps_set (i := 2) scSize.nd rfl (Or.inl rfl) (pv 0))
      (pss_cons (ps_while PassesOwn.never (pt_cmpR op_gt (pv 2) pe_int (nomark _)) (pss_cons (ps_aug (i := 1) scSize.nd rfl (Or.inl rfl) (pe_op op_and (pv 2) pe_int) ip_add)
        (pss_one (ps_set (i := 2) scSize.nd rfl (Or.inl rfl) (pe_op op_shr (pv 2) pe_int))))) (pss_one (ps_ret (pv 1))))), ?_⟩
    refine ⟨_, rfl, while_by (fun σ H' => ∃ held rest j : Nat, σ = [some (.int (s : Int)), some (.int (held : Int)), some (.int (rest : Int))] ∧ H' = H ∧ rest < 2 ^ j ∧ held + Kp318.size j rest = Kp318.size n s)
      (fun (σ : L2.St) _ => match σ[2]? with | some (some (V.int r)) => r.toNat | _ => 0) ⟨0, s, n, rfl, rfl, hn, by omega⟩ ?_ ?_⟩
    · rintro _ _ ⟨held, rest, j, rfl, rfl, h1, h2⟩
      refine ⟨_, rfl, _, _, rfl, rfl, _, rfl, ?_⟩
      refine ite2 (fun c => ?_) (fun c => ?_)
      · have c' : (0 : Int) < (rest : Int) := of_decide_eq_true c
        obtain ⟨j, rfl⟩ : ∃ j', j = j' + 1 := by
          cases j with
          | zero => simp at h1; omega
          | succ j => exact ⟨j, rfl⟩
        obtain ⟨z1, z2⟩ := Mth.size_step h1
        refine ⟨_, rfl, _, rfl, _, _, rfl, rfl, _, _, rfl, rfl, ?_⟩
        refine ⟨_, rfl, _, _, rfl, rfl, (by show (0 : Int) ≤ 1; decide), ?_⟩
        refine ⟨⟨held + rest % 2, rest / 2, j, ?_, rfl, z2, by omega⟩, ?_⟩
        · show [some (V.int (s : Int)), some (V.int ((held : Int) + Builtin.bitAnd (rest : Int) 1)), some (V.int ((rest : Int) / 2 ^ ((1 : Int)).toNat))] = _
          rw [low_int, half_int]
          rfl
        · show ((rest : Int) / 2 ^ ((1 : Int)).toNat).toNat < ((rest : Int)).toNat
          rw [half_int]
          omega
      · have c' : ¬ (0 : Int) < (rest : Int) := of_decide_eq_false (Bool.eq_false_iff.mpr c)
        have r0 : rest = 0 := by omega
        subst r0
        rw [Mth.size_of_zero] at h2
        refine ⟨_, rfl, ?_⟩
        have e : held = Kp318.size n s := by omega
        subst e
        exact q
    · rintro σ H1 Q1 Q2 hq ⟨v, e, i, j, e1, e2, k, e3, z⟩
      exact ⟨v, e, i, j, e1, e2, k, e3, hq _ _ z⟩
end
end Pl

set_option Elab.async false
set_option linter.all false
set_option maxRecDepth 100000
set_option maxHeartbeats 2000000
namespace Pl
open PySem PySem.Spec PyProof.Rows L2
section
variable {P : Program} {w : World} {K : PySem.W.Frag} {mg : Str → Option Value} {base : Heap} {f : Addr} {fd : FuncData}
/-- a def that others call: its address by the module's name, its promise, its binding -/
structure Cal (P : Program) (w : World) (K : PySem.W.Frag) (mg : Str → Option Value) (base : Heap) (k : Nat) (x : Str) (ps : List Str) (sp : Sp) (f : Addr) (fd : FuncData) : Prop where
  ok : FnOk P w K mg base CX0 k f fd ps sp
  mg : mg x = some (.ref f)
  kp : PySem.W.keepIn K (.ref f) = true
  bd : Binds K fd ps []
theorem yes_if {σ : L2.St} {H : Hp} {A B : Hp → Prop} (h : A H) : tYes σ H (fun b H3 => if b = true then A H3 else B H3) := by
  unfold tYes
  exact iteT h
/-! ### power -/
theorem scPow : FnScope ["base", "times", "product", "turn"] ["base", "times"] (defScope (top 5)) := ⟨rfl, rfl, rfl, by decide +kernel, rfl, by decide +kernel, by decide +kernel⟩
theorem ok_pow (F : Fun K "power" "power" (top 5) f fd) (mr : mg "range" = none) : FnOk P w K mg base CX0 1 f fd ["base", "times"] spPow := by
  refine F.ok scPow (fun vs H Q E h => ?_) (fun cdv A outer s0 H vs Q E hr h => ?_)
  · obtain ⟨b, t, rfl, _⟩ := h
    rfl
  · obtain ⟨b, t, rfl, hb, ht, q⟩ := h
    refine ⟨_, pss_cons (ps_set (i := 2) scPow.nd rfl (Or.inl rfl) pe_int) (pss_cons (ps_for PassesOwn.never rfl (pi_range1 rfl mr (pa_cons (pv 1) pa_nil)) (pg_name (i := 3) scPow.nd rfl (Or.inl rfl))
      (pss_one (ps_set (i := 2) scPow.nd rfl (Or.inl rfl) (pe_op op_mul (pv 2) (pv 0))))) (pss_one (ps_ret (pv 2)))), ?_⟩
    refine ⟨_, rfl, (t : Int), rfl, by omega, by omega, for_range (lo := 0) (n := ((t : Int)).toNat) (fun i σ H' => ∃ v, σ = [some (.int (b : Int)), some (.int (t : Int)), some (.int ((b ^ i : Nat) : Int)), v] ∧ H' = H)
      ⟨none, rfl, rfl⟩ ?_ ?_⟩
    · rintro i σ H' hi ⟨v, rfl, rfl⟩
      refine ⟨_, rfl, _, rfl, _, _, rfl, rfl, .inr ⟨by omega, by omega⟩, ?_⟩
      refine ⟨some (V.int (0 + (i : Int))), ?_, rfl⟩
      show [some (V.int (b : Int)), some (V.int (t : Int)), some (V.int (((b ^ i : Nat) : Int) * (b : Int))), some (V.int (0 + (i : Int)))] = _
      rw [Nat.pow_succ, Int.natCast_mul]
    · rintro σ H' ⟨v, rfl, rfl⟩
      refine ⟨_, rfl, ?_⟩
      rw [Int.toNat_natCast]
      exact q
/-! ### sets_up_to -/
theorem scSets : FnScope ["days", "looks", "each"] ["days", "looks"] (defScope (top 4)) := ⟨rfl, rfl, rfl, by decide +kernel, rfl, by decide +kernel, by decide +kernel⟩
theorem one_shl (n : Nat) : (1 : Int) * 2 ^ ((n : Int)).toNat = ((2 ^ n : Nat) : Int) := by
  rw [Int.one_mul, Int.toNat_natCast]
  push_cast
  rfl
theorem sets_take (n m i : Nat) (hi : i < 2 ^ n) : ((List.range (i + 1)).filter fun s => decide (Kp318.size n s ≤ m)) = ((List.range i).filter fun s => decide (Kp318.size n s ≤ m)) ++ (if Kp318.size n i ≤ m then [i] else []) := by
  rw [List.range_succ, List.filter_append]
  congr 1
  by_cases h : Kp318.size n i ≤ m <;> simp [h]
theorem pow6 {n : Nat} (h : n ≤ 6) : 2 ^ n ≤ 64 := Nat.pow_le_pow_right (by omega) h
theorem ok_sets {f1 : Addr} {fd1 : FuncData} (F : Fun K "sets_up_to" "sets_up_to" (top 4) f fd) (mr : mg "range" = none) (C1 : Cal P w K mg base 1 "size" ["days_of_set"] spSize f1 fd1) : FnOk P w K mg base CX0 2 f fd ["days", "looks"] spSets := by
  refine F.ok scSets (fun vs H Q E h => ?_) (fun cdv A outer s0 H vs Q E hr h => ?_)
  · obtain ⟨n, m, rfl, _⟩ := h
    rfl
  · obtain ⟨n, m, rfl, hn, q⟩ := h
    refine ⟨_, pss_one (ps_ret (pe_lc (own := [("each", 2)]) rfl scSets.nd (pi_range1 rfl mr (pa_cons (pe_op op_shl pe_int (pv 0)) pa_nil)) (show BlkOk ["days", "looks", "each"] (defScope (top 4)) _ _ from blkOk_by (by decide +kernel))
      (fun _ _ _ _ _ => pg_name (i := 2) scSets.nd rfl (Or.inl rfl))
      (fun _ _ _ _ _ => pts_one (pt_cmpR op_le (pe_call C1.ok hr rfl C1.mg C1.kp C1.bd .nil pass0 (pa_cons (pv 2) pa_nil)) (pv 1) (nomark _)))
      (fun _ _ _ _ _ => pv 2))), ?_⟩
    have p6 := pow6 hn
    refine ⟨_, rfl, _, _, rfl, rfl, ⟨by omega, by omega, by decide⟩, _, rfl, ?_, ?_, fun D hD => ?_⟩
    · rw [one_shl]
      exact Int.le_trans (by decide) (Int.natCast_nonneg _)
    · rw [one_shl]
      exact Int.lt_of_le_of_lt (Int.ofNat_le.mpr p6) (by decide)
    rw [one_shl, Int.toNat_natCast]
    refine lc_range (lo := 0) (n := 2 ^ n) (fun i H' => Same H H' ∧ H' D = some (.lst (((List.range i).filter fun s => decide (Kp318.size n s ≤ m)).map fun (s : Nat) => V.int (s : Int)))) ⟨same_new hD _, upd_same⟩ ?_ ?_
    · rintro i H' hi ⟨sm, hacc⟩
      refine ⟨rfl, _, rfl, i, n, ?_, hi, _, rfl, _, _, rfl, rfl, _, rfl, ?_⟩
      · show [V.int (0 + (i : Int))] ++ [] = [V.int (i : Int)]
        rw [Int.zero_add]
        rfl
      have e := sets_take n m i hi
      refine ite2 (fun c => ?_) (fun c => ?_)
      · have c' : ((Kp318.size n i : Nat) : Int) ≤ (m : Int) := of_decide_eq_true c
        refine ⟨_, rfl, _, hacc, ?_, fun b o z => ?_, ?_⟩
        · rw [List.length_map]
          have := List.length_filter_le (fun s => decide (Kp318.size n s ≤ m)) (List.range i)
          rw [List.length_range] at this
          exact small1000 (by omega)
        · rw [upd_ne (ne_of_none z hD)]
          exact sm b o z
        · rw [upd_same, e, if_pos (by omega), List.map_append, Int.zero_add]
          rfl
      · have c' : ¬ ((Kp318.size n i : Nat) : Int) ≤ (m : Int) := of_decide_eq_false (Bool.eq_false_iff.mpr c)
        refine ⟨sm, ?_⟩
        rw [e, if_neg (by omega), List.append_nil]
        exact hacc
    · rintro H' ⟨sm, hacc⟩
      exact q H' D sm hD hacc
/-! ### best_plan -/
theorem scBP : FnScope ["days", "looks", "fine", "each"] ["days", "looks", "fine"] (defScope (top 6)) := ⟨rfl, rfl, rfl, by decide +kernel, rfl, by decide +kernel, by decide +kernel⟩
theorem sets_mem {n m s : Nat} (h : s ∈ sets n m) : s < 2 ^ n ∧ Kp318.size n s ≤ m := by
  unfold sets at h
  obtain ⟨h1, h2⟩ := List.mem_filter.mp h
  exact ⟨List.mem_range.mp h1, of_decide_eq_true h2⟩
theorem sets_length {n : Nat} (m : Nat) (hn : n ≤ 6) : (sets n m).length ≤ 64 := by
  unfold sets
  have := List.length_filter_le (fun s => decide (Kp318.size n s ≤ m)) (List.range (2 ^ n))
  rw [List.length_range] at this
  have := pow6 hn
  omega
theorem ok_bestPlan {f1 f2 f3 : Addr} {fd1 fd2 fd3 : FuncData} (F : Fun K "best_plan" "best_plan" (top 6) f fd) (C1 : Cal P w K mg base 1 "size" ["days_of_set"] spSize f1 fd1) (C2 : Cal P w K mg base 2 "sets_up_to" ["days", "looks"] spSets f2 fd2)
    (C3 : Cal P w K mg base 1 "power" ["base", "times"] spPow f3 fd3) : FnOk P w K mg base CX0 3 f fd ["days", "looks", "fine"] spBestPlan := by
  refine F.ok scBP (fun vs H Q E h => ?_) (fun cdv A outer s0 H vs Q E hr h => ?_)
  · obtain ⟨n, m, b, rfl, _⟩ := h
    rfl
  · obtain ⟨n, m, b, rfl, hn, hm, hb, q⟩ := h
    have hr1 : Room 1 _ := hr.mono (by decide)
    refine ⟨_, pss_one (ps_ret (pe_lc (own := [("each", 3)]) rfl scBP.nd (pi_list (pe_call C2.ok hr rfl C2.mg C2.kp C2.bd .nil pass0 (pa_cons (pv 0) (pa_cons (pv 1) pa_nil)))) (show BlkOk ["days", "looks", "fine", "each"] (defScope (top 6)) _ _ from blkOk_by (by decide +kernel))
      (fun _ _ _ _ _ => pg_name (i := 3) scBP.nd rfl (Or.inl rfl))
      (fun _ _ _ _ _ => pts_nil)
      (fun _ _ _ _ _ => pe_tup (pa_cons (pv 3) (pa_cons (pe_call C3.ok hr1 rfl C3.mg C3.kp C3.bd .nil pass0 (pa_cons (pv 2) (pa_cons (pe_op op_sub (pv 1) (pe_call C1.ok hr1 rfl C1.mg C1.kp C1.bd .nil pass0 (pa_cons (pv 3) pa_nil))) pa_nil))) pa_nil))))), ?_⟩
    refine ⟨_, rfl, _, rfl, n, m, rfl, hn, fun H1 p1 sm1 hp1 hl1 => ?_⟩
    refine ⟨p1, rfl, ⟨_, SqL.of hl1⟩, fun D hD => ?_⟩
    refine lc_list (K := K) (a := p1) (xs := (sets n m).map fun (s : Nat) => V.int (s : Int)) (fun i H' => Same H1 H' ∧ ∃ rs : List Addr, H' D = some (.lst (rs.map V.ref)) ∧ Paired (TupAt H') rs (((sets n m).take i).map fun s => (⟨s, b ^ (m - Kp318.size n s)⟩ : Kp318.Plan)))
      ⟨same_new hD _, [], upd_same, .nil⟩ (fun i H' _ z => z.1.seq (SqL.of hl1)) ?_ ?_
    · rintro i x H' hi ⟨sm, rs, hacc, pr⟩
      obtain ⟨z, hz, rfl⟩ : ∃ z, (sets n m)[i]? = some z ∧ x = V.int (z : Int) := by
        rw [List.getElem?_map] at hi
        cases e : (sets n m)[i]? with
        | none => rw [e] at hi; cases hi
        | some z => rw [e] at hi; exact ⟨z, rfl, (Option.some.inj hi).symm⟩
      obtain ⟨z1, z2⟩ := sets_mem (List.mem_of_getElem? hz)
      have zl : rs.length ≤ 64 := by
        have e1 := Paired.length pr
        rw [List.length_map, List.length_take] at e1
        have := sets_length m hn
        omega
      refine ⟨rfl, yes_if ?_⟩
      refine ⟨_, rfl, _, rfl, _, rfl, _, rfl, z, n, rfl, z1, _, _, rfl, rfl, b, m - Kp318.size n z, ?_, hb, by omega, ?_⟩
      · show [V.int (b : Int), V.int ((m : Int) - ((Kp318.size n z : Nat) : Int))] ++ [] = _
        rw [← Int.natCast_sub z2]
        rfl
      refine ⟨(by show 2 ≤ sizeLine; decide), fun p hp => ?_⟩
      have pD : D ≠ p := ne_of_none hacc hp
      refine ⟨_, (by rw [upd_ne pD]; exact hacc), (by rw [List.length_map]; exact small1000 (by omega)), fun b' o zz => ?_, rs ++ [p], ?_, ?_⟩
      · have nD := ne_of_none zz hD
        have np := ne_of_none (sm _ _ zz) hp
        rw [upd_ne nD, upd_ne np]
        exact sm _ _ zz
      · rw [upd_same, List.map_append]
        rfl
      · rw [take_snoc hz, List.map_append]
        have nDp : p ≠ D := fun e => pD e.symm
        refine Paired.snoc (Paired.mapP pr fun r pl t => ?_) ?_
        · have n1 : r ≠ D := ne_of t hacc (by intro e; cases e)
          have n2 : r ≠ p := ne_of_none t hp
          show upd (upd H' p _) D _ r = _
          rw [upd_ne n1, upd_ne n2]
          exact t
        · show upd (upd H' p _) D _ p = _
          rw [upd_ne nDp, upd_same]
    · rintro H' ⟨sm, rs, hacc, pr⟩
      rw [List.length_map, List.take_length] at pr
      exact q H' D (sm1.trans sm) (sm1.free hD) ⟨rs, hacc, pr⟩
/-! ### looking, resting, agreeing -/
theorem scLook : FnScope ["plans", "day", "plan"] ["plans", "day"] (defScope (top 7)) := ⟨rfl, rfl, rfl, by decide +kernel, rfl, by decide +kernel, by decide +kernel⟩
theorem ok_looking {f1 : Addr} {fd1 : FuncData} (F : Fun K "looking" "looking" (top 7) f fd) (C1 : Cal P w K mg base 1 "has_day" ["days_of_set", "day"] spHas f1 fd1) : FnOk P w K mg base CX0 2 f fd ["plans", "day"] (spPart Kp318.with_) := by
  refine F.ok scLook (fun vs H Q E h => ?_) (fun cdv A outer s0 H vs Q E hr h => ?_)
  · obtain ⟨l, d, ps, rfl, _⟩ := h
    rfl
  · obtain ⟨l, d, ps, rfl, ⟨rs, hl, pr⟩, len, q⟩ := h
    refine ⟨_, pss_one (ps_ret (pe_lc (own := [("plan", 2)]) rfl scLook.nd (pi_list (pv 0)) (show BlkOk ["plans", "day", "plan"] (defScope (top 7)) _ _ from blkOk_by (by decide +kernel))
      (fun _ _ _ _ _ => pg_name (i := 2) scLook.nd rfl (Or.inl rfl))
      (fun _ _ _ _ _ => pts_one (pt_val (pe_call C1.ok hr rfl C1.mg C1.kp C1.bd .nil pass0 (pa_cons (pe_ix (r := rIxT K) ix_tup (pv 2) pe_int (fun _ _ => rfl)) (pa_cons (pv 1) pa_nil)))))
      (fun _ _ _ _ _ => pv 2))), ?_⟩
    refine ⟨_, rfl, l, rfl, ⟨_, SqL.of hl⟩, fun D hD => ?_⟩
    refine lc_list (K := K) (a := l) (xs := rs.map V.ref) (Filt H D ps fun p => Kp318.has p.set d) (Filt.start hD) (fun i H' _ z => z.same.seq (SqL.of hl)) ?_ ?_
    · rintro i x H' hi F'
      obtain ⟨r, hr', rfl⟩ := ref_at hi
      obtain ⟨p, hp, tp⟩ := paired_get pr hr'
      refine ⟨rfl, _, rfl, r, _, _, _, rfl, rfl, SqT.of (F'.same _ _ tp), rfl, _, rfl, p.set, d, rfl, _, rfl, ?_⟩
      refine ite2 (fun c => ?_) (fun c => ?_)
      · exact ⟨_, rfl, F'.push hD len hp tp c⟩
      · exact F'.skip hp (Bool.eq_false_iff.mpr c)
    · intro H' F'
      exact q H' D F'.same hD (F'.done (by rw [List.length_map, Paired.length pr]))
theorem scRest : FnScope ["plans", "day", "plan"] ["plans", "day"] (defScope (top 8)) := ⟨rfl, rfl, rfl, by decide +kernel, rfl, by decide +kernel, by decide +kernel⟩
theorem ok_resting {f1 : Addr} {fd1 : FuncData} (F : Fun K "resting" "resting" (top 8) f fd) (C1 : Cal P w K mg base 1 "has_day" ["days_of_set", "day"] spHas f1 fd1) : FnOk P w K mg base CX0 2 f fd ["plans", "day"] (spPart Kp318.without) := by
  refine F.ok scRest (fun vs H Q E h => ?_) (fun cdv A outer s0 H vs Q E hr h => ?_)
  · obtain ⟨l, d, ps, rfl, _⟩ := h
    rfl
  · obtain ⟨l, d, ps, rfl, ⟨rs, hl, pr⟩, len, q⟩ := h
    refine ⟨_, pss_one (ps_ret (pe_lc (own := [("plan", 2)]) rfl scRest.nd (pi_list (pv 0)) (show BlkOk ["plans", "day", "plan"] (defScope (top 8)) _ _ from blkOk_by (by decide +kernel))
      (fun _ _ _ _ _ => pg_name (i := 2) scRest.nd rfl (Or.inl rfl))
      (fun _ _ _ _ _ => pts_one (pt_not (pt_val (pe_call C1.ok hr rfl C1.mg C1.kp C1.bd .nil pass0 (pa_cons (pe_ix (r := rIxT K) ix_tup (pv 2) pe_int (fun _ _ => rfl)) (pa_cons (pv 1) pa_nil))))))
      (fun _ _ _ _ _ => pv 2))), ?_⟩
    refine ⟨_, rfl, l, rfl, ⟨_, SqL.of hl⟩, fun D hD => ?_⟩
    refine lc_list (K := K) (a := l) (xs := rs.map V.ref) (Filt H D ps fun p => !Kp318.has p.set d) (Filt.start hD) (fun i H' _ z => z.same.seq (SqL.of hl)) ?_ ?_
    · rintro i x H' hi F'
      obtain ⟨r, hr', rfl⟩ := ref_at hi
      obtain ⟨p, hp, tp⟩ := paired_get pr hr'
      refine ⟨rfl, _, rfl, r, _, _, _, rfl, rfl, SqT.of (F'.same _ _ tp), rfl, _, rfl, p.set, d, rfl, _, rfl, ?_⟩
      refine ite2 (fun c => ?_) (fun c => ?_)
      · exact ⟨_, rfl, F'.push hD len hp tp c⟩
      · exact F'.skip hp (Bool.eq_false_iff.mpr c)
    · intro H' F'
      exact q H' D F'.same hD (F'.done (by rw [List.length_map, Paired.length pr]))
theorem scAgree : FnScope ["plans", "day", "seen", "ahead", "plan"] ["plans", "day", "seen"] (defScope (top 9)) := ⟨rfl, rfl, rfl, by decide +kernel, rfl, by decide +kernel, by decide +kernel⟩
theorem and_low (x t : Nat) : Builtin.bitAnd (x : Int) ((1 : Int) * 2 ^ ((t : Int)).toNat - 1) = ((x % 2 ^ t : Nat) : Int) := by
  have e : (1 : Int) * 2 ^ ((t : Int)).toNat - 1 = ((2 ^ t - 1 : Nat) : Int) := by
    rw [one_shl]
    have : 0 < 2 ^ t := Nat.pow_pos (by omega)
    omega
  rw [e, bitAnd_pp (by omega) (by omega), Int.toNat_natCast, Int.toNat_natCast, Nat.and_two_pow_sub_one_eq_mod]
theorem ok_agreeing (F : Fun K "agreeing" "agreeing" (top 9) f fd) : FnOk P w K mg base CX0 2 f fd ["plans", "day", "seen"] spAgree := by
  refine F.ok scAgree (fun vs H Q E h => ?_) (fun cdv A outer s0 H vs Q E hr h => ?_)
  · obtain ⟨l, t, s, ps, rfl, _⟩ := h
    rfl
  · obtain ⟨l, t, s, ps, rfl, ht, ⟨rs, hl, pr⟩, len, q⟩ := h
    refine ⟨_, pss_cons (ps_set (i := 3) scAgree.nd rfl (Or.inr rfl) (pe_op op_sub (pe_op op_shl pe_int (pv 1)) pe_int)) (pss_one (ps_ret (pe_lc (own := [("plan", 4)]) rfl scAgree.nd (pi_list (pv 0)) (show BlkOk ["plans", "day", "seen", "ahead", "plan"] (defScope (top 9)) _ _ from blkOk_by (by decide +kernel))
      (fun _ _ _ _ _ => pg_name (i := 4) scAgree.nd rfl (Or.inl rfl))
      (fun _ _ _ _ _ => pts_one (pt_cmpR op_eq (pe_op op_and (pe_ix (r := rIxT K) ix_tup (pv 4) pe_int (fun _ _ => rfl)) (pv 3)) (pv 2) (nomark _)))
      (fun _ _ _ _ _ => pv 4)))), ?_⟩
    refine ⟨_, rfl, _, _, rfl, rfl, ⟨by omega, by omega, by decide⟩, _, _, rfl, rfl, ?_⟩
    refine ⟨_, rfl, l, rfl, ⟨_, SqL.of hl⟩, fun D hD => ?_⟩
    refine lc_list (K := K) (a := l) (xs := rs.map V.ref) (Filt H D ps fun p => decide (p.set % 2 ^ t = s)) (Filt.start hD) (fun i H' _ z => z.same.seq (SqL.of hl)) ?_ ?_
    · rintro i x H' hi F'
      obtain ⟨r, hr', rfl⟩ := ref_at hi
      obtain ⟨p, hp, tp⟩ := paired_get pr hr'
      refine ⟨rfl, _, rfl, r, _, _, _, rfl, rfl, SqT.of (F'.same _ _ tp), rfl, _, rfl, _, _, rfl, rfl, _, rfl, rfl, _, rfl, ?_⟩
      refine ite2 (fun c => ?_) (fun c => ?_)
      · have c' : V.int (Builtin.bitAnd (p.set : Int) ((1 : Int) * 2 ^ ((t : Int)).toNat - 1)) = V.int (s : Int) := of_decide_eq_true c
        rw [and_low] at c'
        have c2 : p.set % 2 ^ t = s := by injection c' with c'; omega
        exact ⟨_, rfl, F'.push hD len hp tp (decide_eq_true c2)⟩
      · have c' : ¬ V.int (Builtin.bitAnd (p.set : Int) ((1 : Int) * 2 ^ ((t : Int)).toNat - 1)) = V.int (s : Int) := of_decide_eq_false (Bool.eq_false_iff.mpr c)
        rw [and_low] at c'
        have c2 : ¬ p.set % 2 ^ t = s := fun e => c' (by rw [e])
        exact F'.skip hp (decide_eq_false c2)
    · intro H' F'
      exact q H' D F'.same hD (F'.done (by rw [List.length_map, Paired.length pr]))
/-! ### weight_of -/
theorem scWeight : FnScope ["plans", "plan"] ["plans"] (defScope (top 10)) := ⟨rfl, rfl, rfl, by decide +kernel, rfl, by decide +kernel, by decide +kernel⟩
theorem sum_total : ∀ ps : List Kp318.Plan, (ps.map fun p => (p.weight : Int)).sum = (Kp318.total ps : Int)
  | [] => rfl
  | p :: ps => by
    rw [List.map_cons, List.sum_cons, sum_total ps, Mth.total_cons]
    push_cast
    rfl
theorem ok_weight (F : Fun K "weight_of" "weight_of" (top 10) f fd) (ms : mg "sum" = none) : FnOk P w K mg base CX0 2 f fd ["plans"] spWeight := by
  refine F.ok scWeight (fun vs H Q E h => ?_) (fun cdv A outer s0 H vs Q E hr h => ?_)
  · obtain ⟨l, ps, rfl, _⟩ := h
    rfl
  · obtain ⟨l, ps, rfl, ⟨rs, hl, pr⟩, len, q⟩ := h
    refine ⟨_, pss_one (ps_ret (pe_callB (cr_sum rfl) rfl ms PyProof.Rows.boot_sum (pa_cons (pe_lc (own := [("plan", 1)]) rfl scWeight.nd (pi_list (pv 0)) (show BlkOk ["plans", "plan"] (defScope (top 10)) _ _ from blkOk_by (by decide +kernel))
      (fun _ _ _ _ _ => pg_name (i := 1) scWeight.nd rfl (Or.inl rfl))
      (fun _ _ _ _ _ => pts_nil)
      (fun _ _ _ _ _ => pe_ix (r := rIxT K) ix_tup (pv 1) pe_int (fun _ _ => rfl))) pa_nil))), ?_⟩
    refine ⟨_, rfl, l, rfl, ⟨_, SqL.of hl⟩, fun D hD => ?_⟩
    refine lc_list (K := K) (a := l) (xs := rs.map V.ref) (fun i H' => Same H H' ∧ H' D = some (.lst (((ps.take i).map fun p => (p.weight : Int)).map V.int))) ⟨same_new hD _, upd_same⟩ (fun i H' _ z => z.1.seq (SqL.of hl)) ?_ ?_
    · rintro i x H' hi ⟨sm, hacc⟩
      obtain ⟨r, hr', rfl⟩ := ref_at hi
      obtain ⟨p, hp, tp⟩ := paired_get pr hr'
      refine ⟨rfl, yes_if ?_⟩
      refine ⟨_, rfl, r, _, _, _, rfl, rfl, SqT.of (sm _ _ tp), rfl, _, hacc, ?_, fun b o zz => ?_, ?_⟩
      · rw [List.length_map, List.length_map, List.length_take]
        exact small1000 (by omega)
      · rw [upd_ne (ne_of_none zz hD)]
        exact sm _ _ zz
      · rw [upd_same, take_snoc hp, List.map_append, List.map_append]
        rfl
    · rintro H' ⟨sm, hacc⟩
      refine ⟨D, _, rfl, SqL.of hacc, ?_⟩
      have e : ((ps.take (rs.map V.ref).length).map fun p => (p.weight : Int)).sum = (Kp318.total ps : Int) := by
        rw [List.length_map, Paired.length pr, List.take_length, sum_total]
      rw [e]
      exact q H' sm
end
/-! ### readings of calls by a lemma -/
section
variable {K : PySem.W.Frag} {σ : L2.St} {H : Hp} {Q : VK} {i j : Nat} {l : Addr} {d : Nat} {ps : List Kp318.Plan}
theorem r_part {sel : List Kp318.Plan → Nat → List Kp318.Plan} (e1 : σ[i]? = some (some (.ref l))) (e2 : σ[j]? = some (some (.int (d : Int)))) (hP : PL H l ps) (len : ps.length ≤ 1000)
    (q : ∀ (H' : Hp) (p : Addr), Same H H' → H p = none → PL H' p (sel ps d) → Q (.ref p) H') : tCall (spPart sel) [] E0 (tCons (tVar i) (tCons (tVar j) tNil)) σ H Q := ⟨_, e1, _, e2, l, d, ps, rfl, hP, len, q⟩
theorem r_wt (e1 : σ[i]? = some (some (.ref l))) (hP : PL H l ps) (len : ps.length ≤ 1000) (q : ∀ H' : Hp, Same H H' → Q (.int (Kp318.total ps : Int)) H') : tCall spWeight [] E0 (tCons (tVar i) tNil) σ H Q := ⟨_, e1, l, ps, rfl, hP, len, q⟩
theorem r_wtF {a C dx : Addr} {fs : List (Str × V)} {f : Str} (e : σ[i]? = some (some (.ref a))) (ho : H a = some (.ins C dx fs)) (cl : Cls K C) (na : NoAttr K C f) (lk : fs.lookup f = some (.ref l)) (hP : PL H l ps) (len : ps.length ≤ 1000)
    (q : ∀ H' : Hp, Same H H' → Q (.int (Kp318.total ps : Int)) H') : tCall spWeight [] E0 (tCons (tFld K (tVar i) f) tNil) σ H Q := r_fld e ho cl na lk ⟨l, ps, rfl, hP, len, q⟩
theorem r_bp {a C dx : Addr} {fs : List (Str × V)} {n m k : Nat} {f1 f2 : Str} (e : σ[i]? = some (some (.ref a))) (e2 : σ[j]? = some (some (.int (m : Int)))) (ho : H a = some (.ins C dx fs)) (cl : Cls K C) (na : NoAttr K C f1) (nb : NoAttr K C f2) (l1 : fs.lookup f1 = some (.int (n : Int))) (l2 : fs.lookup f2 = some (.int (k : Int)))
    (hn : n ≤ 6) (hm : m ≤ 1000) (hk : k ≤ 1000) (q : ∀ (H' : Hp) (p : Addr), Same H H' → H p = none → PL H' p (Kp318.fair n m k) → Q (.ref p) H') : tCall spBestPlan [] E0 (tCons (tFld K (tVar i) f1) (tCons (tVar j) (tCons (tFld K (tVar i) f2) tNil))) σ H Q :=
  ⟨_, e, a, C, dx, fs, _, rfl, ho, cl, na, l1, _, e2, _, e, a, C, dx, fs, _, rfl, ho, cl, nb, l2, n, m, k, rfl, hn, hm, hk, q⟩
end
end Pl

set_option Elab.async false
set_option linter.all false
set_option maxRecDepth 100000
set_option maxHeartbeats 2000000
namespace Pl
open PySem PySem.Spec PyProof.Rows L2
/-! ### fractions -/
theorem op_fdivBig {X : Cx} : OpR X (binaryOp .FloorDiv) (rI (fun _ j => 0 < j ∧ j.natAbs < 2 ^ 64) fun i j => .int (i / j)) := opI fun i j _ _ _ _ _ hc q => by
  have h1 : (0 : Int) < j := hc.1
  have h2 : j.natAbs < 2 ^ 64 := hc.2
  have h3 : j.natAbs.log2 < 64 := (Nat.log2_lt (by omega)).mpr h2
  exact floordiv_int (by omega) (by rw [Int.fdiv_eq_ediv_of_nonneg i (by omega)]; exact q) (.inl (PyProof.noPylong_of_log2 (by omega)))
noncomputable def spGcd : Sp := fun vs H Q _ => ∃ x y : Nat, vs = [.int (x : Int), .int (y : Int)] ∧ Q (.int (Nat.gcd x y : Int)) H
noncomputable def spFrac : Sp := fun vs H Q _ => ∃ (a : Int) (b : Nat), vs = [.int a, .int (b : Int)] ∧ 0 < b ∧ b < 2 ^ 64 ∧ ∀ (H' : Hp) (p : Addr), Same H H' → H p = none → H' p = some (.lst [.int (Kp317.red a b).1, .int ((Kp317.red a b).2 : Int)]) → Q (.ref p) H'
noncomputable def spTold : Sp := fun vs H Q _ => ∃ (a : Int) (b : Nat), vs = [.int a, .int (b : Int)] ∧ 0 < b ∧ b < 2 ^ 64 ∧ ∀ (H' : Hp) (p : Addr), Same H H' → H p = none → H' p = some (.lst [.int 0, .int (Kp317.red a b).1, .int ((Kp317.red a b).2 : Int)]) → Q (.ref p) H'
section
variable {P : Program} {w : World} {K : PySem.W.Frag} {mg : Str → Option Value} {base : Heap} {f : Addr} {fd : FuncData}
theorem scGcd : FnScope ["left", "right", "rest"] ["left", "right"] (defScope (top 14)) := ⟨rfl, rfl, rfl, by decide +kernel, rfl, by decide +kernel, by decide +kernel⟩
theorem ok_gcd (F : Fun K "common_divisor" "common_divisor" (top 14) f fd) : FnOk P w K mg base CX0 1 f fd ["left", "right"] spGcd := by
  refine F.ok scGcd (fun vs H Q E h => ?_) (fun cdv A outer s0 H vs Q E hr h => ?_)
  · obtain ⟨x, y, rfl, _⟩ := h
    rfl
  · obtain ⟨x, y, rfl, q⟩ := h
    refine ⟨_, pss_cons (ps_while PassesOwn.never (pt_cmpR op_gt (pv 1) pe_int (nomark _)) (pss_cons (ps_set (i := 2) scGcd.nd rfl (Or.inl rfl) (pe_op op_mod (pv 0) (pv 1)))
      (pss_cons (ps_set (i := 0) scGcd.nd rfl (Or.inl rfl) (pv 1)) (pss_one (ps_set (i := 1) scGcd.nd rfl (Or.inl rfl) (pv 2)))))) (pss_one (ps_ret (pv 0))), ?_⟩
    refine while_by (fun σ H' => ∃ (l r : Nat) (v : Option V), σ = [some (.int (l : Int)), some (.int (r : Int)), v] ∧ H' = H ∧ Nat.gcd l r = Nat.gcd x y)
      (fun (σ : L2.St) _ => match σ[1]? with | some (some (V.int r)) => r.toNat | _ => 0) ⟨x, y, none, rfl, rfl, rfl⟩ ?_ ?_
    · rintro _ _ ⟨l, r, v, rfl, rfl, h1⟩
      refine ⟨_, rfl, _, _, rfl, rfl, _, rfl, ?_⟩
      refine ite2 (fun c => ?_) (fun c => ?_)
      · have c' : (0 : Int) < (r : Int) := of_decide_eq_true c
        refine ⟨_, rfl, _, rfl, _, _, rfl, rfl, c', ?_⟩
        refine ⟨_, rfl, ?_⟩
        refine ⟨_, rfl, ?_⟩
        refine ⟨⟨r, l % r, some (.int ((l % r : Nat) : Int)), ?_, rfl, ?_⟩, ?_⟩
        · show [some (V.int (r : Int)), some (V.int ((l : Int) % (r : Int))), some (V.int ((l : Int) % (r : Int)))] = _
          rw [← Int.natCast_emod]
        · rw [Nat.gcd_comm r, ← Nat.gcd_rec, Nat.gcd_comm]
          exact h1
        · show ((l : Int) % (r : Int)).toNat < ((r : Int)).toNat
          rw [← Int.natCast_emod, Int.toNat_natCast, Int.toNat_natCast]
          exact Nat.mod_lt _ (by omega)
      · have c' : ¬ (0 : Int) < (r : Int) := of_decide_eq_false (Bool.eq_false_iff.mpr c)
        have r0 : r = 0 := by omega
        subst r0
        rw [Nat.gcd_zero_right] at h1
        subst h1
        exact ⟨_, rfl, q⟩
    · rintro σ H1 Q1 Q2 hq ⟨v, e, i, j, e1, e2, k, e3, z⟩
      exact ⟨v, e, i, j, e1, e2, k, e3, hq _ _ z⟩
theorem scFrac : FnScope ["above", "below", "divisor"] ["above", "below"] (defScope (top 15)) := ⟨rfl, rfl, rfl, by decide +kernel, rfl, by decide +kernel, by decide +kernel⟩
theorem abs_nat (a : Int) : (if a < 0 then -a else a) = (a.natAbs : Int) := by split <;> omega
theorem ok_frac {f1 : Addr} {fd1 : FuncData} (F : Fun K "fraction" "fraction" (top 15) f fd) (ma : mg "abs" = none) (C1 : Cal P w K mg base 1 "common_divisor" ["left", "right"] spGcd f1 fd1) : FnOk P w K mg base CX0 2 f fd ["above", "below"] spFrac := by
  refine F.ok scFrac (fun vs H Q E h => ?_) (fun cdv A outer s0 H vs Q E hr h => ?_)
  · obtain ⟨a, b, rfl, _⟩ := h
    rfl
  · obtain ⟨a, b, rfl, hb, hb2, q⟩ := h
    refine ⟨_, pss_cons (ps_set (i := 2) scFrac.nd rfl (Or.inl rfl) (pe_call C1.ok hr rfl C1.mg C1.kp C1.bd .nil pass0 (pa_cons (pe_callB call_abs rfl ma PyProof.Rows.boot_abs (pa_cons (pv 0) pa_nil)) (pa_cons (pv 1) pa_nil))))
      (pss_one (ps_ret (pe_lst (pa_cons (pe_op op_fdivBig (pv 0) (pv 2)) (pa_cons (pe_op op_fdivBig (pv 1) (pv 2)) pa_nil))))), ?_⟩
    have g0 : 0 < Nat.gcd a.natAbs b := Nat.gcd_pos_of_pos_right _ hb
    have g1 : Nat.gcd a.natAbs b ≤ b := Nat.le_of_dvd hb (Nat.gcd_dvd_right _ _)
    refine ⟨_, rfl, a, rfl, _, rfl, a.natAbs, b, ?_, ?_⟩
    · show [V.int (if a < 0 then -a else a), V.int (b : Int)] ++ [] = _
      rw [abs_nat]
      rfl
    have gg : (0 : Int) < (Nat.gcd a.natAbs b : Int) ∧ ((Nat.gcd a.natAbs b : Nat) : Int).natAbs < 2 ^ 64 := ⟨by omega, by rw [Int.natAbs_natCast]; omega⟩
    refine ⟨_, rfl, _, rfl, _, _, rfl, rfl, gg, _, rfl, _, rfl, _, _, rfl, rfl, gg, (by show 2 ≤ sizeLine; decide), fun p hp => ?_⟩
    refine q _ p (same_new hp _) hp ?_
    rw [upd_same]
    show some (HO.lst [V.int (a / (Nat.gcd a.natAbs b : Int)), V.int ((b : Int) / (Nat.gcd a.natAbs b : Int))]) = _
    rw [← Int.natCast_ediv]
    rfl
theorem scTold : FnScope ["above", "below"] ["above", "below"] (defScope (top 39)) := ⟨rfl, rfl, rfl, by decide +kernel, rfl, by decide +kernel, by decide +kernel⟩
theorem ok_told {f1 : Addr} {fd1 : FuncData} (F : Fun K "told_fraction" "told_fraction" (top 39) f fd) (C1 : Cal P w K mg base 2 "fraction" ["above", "below"] spFrac f1 fd1) : FnOk P w K mg base CX0 3 f fd ["above", "below"] spTold := by
  refine F.ok scTold (fun vs H Q E h => ?_) (fun cdv A outer s0 H vs Q E hr h => ?_)
  · obtain ⟨a, b, rfl, _⟩ := h
    rfl
  · obtain ⟨a, b, rfl, hb, hb2, q⟩ := h
    refine ⟨_, pss_one (ps_ret (pe_op op_cat (pe_lst (pa_cons pe_int pa_nil)) (pe_call C1.ok hr rfl C1.mg C1.kp C1.bd .nil pass0 (pa_cons (pv 0) (pa_cons (pv 1) pa_nil))))), ?_⟩
    refine ⟨(by show 1 ≤ sizeLine; decide), fun p hp => ?_⟩
    have s1 : Same H (upd H p (.lst [.int 0])) := same_new hp _
    refine ⟨_, rfl, _, rfl, a, b, rfl, hb, hb2, fun H1 p1 sm1 hp1 hl1 => ?_⟩
    refine ⟨p, p1, _, _, rfl, rfl, sm1 _ _ upd_same, hl1, (by show 3 ≤ sizeLine; decide), fun p2 hp2 => ?_⟩
    refine q _ p2 ((s1.trans sm1).trans (same_new hp2 _)) ((s1.trans sm1).free hp2) ?_
    rw [upd_same]
    rfl
/-! ### the game -/
noncomputable def gf (n b : Nat) : List (Str × V) := putF "fine" (.int (b : Int)) (putF "days" (.int (n : Int)) [])
theorem gf_days (n b : Nat) : (gf n b).lookup ("days" : Str) = some (.int (n : Int)) := by
  unfold gf
  rw [lookup_putF, if_neg (by decide +kernel), lookup_putF, if_pos rfl]
theorem gf_fine (n b : Nat) : (gf n b).lookup ("fine" : Str) = some (.int (b : Int)) := by
  unfold gf
  rw [lookup_putF, if_pos rfl]
theorem gf_no (n b : Nat) {m : Str} (h1 : ¬ m = "fine") (h2 : ¬ m = "days") : (gf n b).lookup m = none := by
  unfold gf
  rw [lookup_putF, if_neg h1, lookup_putF, if_neg h2]
  all_goals rfl
noncomputable def GameAt (C : Addr) (H : Hp) (g : Addr) (n b : Nat) : Prop := ∃ dx, H g = some (.ins C dx (gf n b))
theorem GameAt.same {C g : Addr} {H H' : Hp} {n b : Nat} (e : Same H H') (h : GameAt C H g n b) : GameAt C H' g n b := by
  obtain ⟨dx, h⟩ := h
  exact ⟨dx, e _ _ h⟩
structure GTxt (K : PySem.W.Frag) (C : Addr) : Prop where
  cl : Cls K C
  nD : NoAttr K C "days"
  nF : NoAttr K C "fine"
noncomputable def spGInit (C : Addr) : Sp := fun vs H Q _ => ∃ (p dx : Addr) (n b : Nat), vs = [.ref p, .int (n : Int), .int (b : Int)] ∧ H p = some (.ins C dx []) ∧ ∀ H' : Hp, GameAt C H' p n b → (∀ a o, H a = some o → a ≠ p → H' a = some o) → Q .non H'
theorem scGI : FnScope ["self", "days", "fine"] ["self", "days", "fine"] (defScope (inClass (top 12) 0)) := ⟨rfl, rfl, rfl, by decide +kernel, rfl, by decide +kernel, by decide +kernel⟩
theorem ok_gInit {C : Addr} (F : Fun K "__init__" "Game.__init__" (inClass (top 12) 0) f fd) (T : GTxt K C) : FnOk P w K mg base CX0 1 f fd ["self", "days", "fine"] (spGInit C) := by
  refine F.ok scGI (fun vs H Q E h => ?_) (fun cdv A outer s0 H vs Q E hr h => ?_)
  · obtain ⟨p, dx, n, b, rfl, _⟩ := h
    rfl
  · obtain ⟨p, dx, n, b, rfl, hp, k⟩ := h
    refine ⟨_, pss_cons (ps_fld (pv 0) (pv 1) rfl) (pss_one (ps_fld (pv 0) (pv 2) rfl)), ?_⟩
    refine ⟨_, rfl, _, rfl, p, C, dx, [], rfl, hp, T.cl, T.nD, (by show 0 < 1000; decide), ?_⟩
    refine ⟨_, rfl, _, rfl, p, C, dx, _, rfl, upd_same, T.cl, T.nF, (by show 1 < 1000; decide), ?_⟩
    refine k _ ⟨dx, upd_same⟩ fun a o e ha => ?_
    rw [upd_ne ha, upd_ne ha]
    exact e
/-! the methods, by how many days are left -/
noncomputable def spBest (C : Addr) (f : Nat) : Sp := fun vs H Q _ => ∃ (g l : Addr) (n b t k : Nat) (ps : List Kp318.Plan), vs = [.ref g, .ref l, .int (t : Int), .int (k : Int)] ∧ GameAt C H g n b ∧ b ≤ 1000 ∧ PL H l ps ∧ ps.length ≤ 1000 ∧ t ≤ n ∧ n - t + 1 ≤ f ∧
  ∀ H' : Hp, Same H H' → Q (.int (Kp318.replyUp b (n - t) t ps k)) H'
noncomputable def spDare (C : Addr) (f : Nat) : Sp := fun vs H Q _ => ∃ (g l : Addr) (n b t k : Nat) (ps : List Kp318.Plan), vs = [.ref g, .ref l, .int (t : Int), .int (k : Int)] ∧ GameAt C H g n b ∧ b ≤ 1000 ∧ PL H l ps ∧ ps.length ≤ 1000 ∧ t < n ∧ 0 < k ∧ n - t ≤ f ∧
  ∀ H' : Hp, Same H H' → Q (.int (Kp318.dares b n t ps k)) H'
noncomputable def spWait (C : Addr) (f : Nat) : Sp := fun vs H Q _ => ∃ (g l : Addr) (n b t k : Nat) (ps : List Kp318.Plan), vs = [.ref g, .ref l, .int (t : Int), .int (k : Int)] ∧ GameAt C H g n b ∧ b ≤ 1000 ∧ PL H l ps ∧ ps.length ≤ 1000 ∧ t < n ∧ n - t ≤ f ∧
  ∀ H' : Hp, Same H H' → Q (.int (Kp318.waits b n t ps k)) H'
noncomputable def spPlayed (C : Addr) (f : Nat) : Sp := fun vs H Q _ => ∃ (g l : Addr) (n b t k : Nat) (ps : List Kp318.Plan), vs = [.ref g, .ref l, .int (t : Int), .int (k : Int)] ∧ GameAt C H g n b ∧ b ≤ 1000 ∧ PL H l ps ∧ ps.length ≤ 1000 ∧ t ≤ n ∧ n - t + 1 ≤ f ∧
  ∀ (H' : Hp) (p : Addr), Same H H' → H p = none → H' p = some (.tup [.int ((Kp318.outcomeUp b n (n - t) t ps k).1 : Int), .int ((Kp318.outcomeUp b n (n - t) t ps k).2 : Int)]) → Q (.ref p) H'
theorem spBest.elim {C : Addr} {f : Nat} {vs : List V} {H : Hp} {Q : VK} {E : XK} {R : Prop} (h : spBest C f vs H Q E) (go : ∀ (g l : Addr) (n b t k : Nat) (ps : List Kp318.Plan), vs = [.ref g, .ref l, .int (t : Int), .int (k : Int)] → GameAt C H g n b → b ≤ 1000 → PL H l ps → ps.length ≤ 1000 → t ≤ n → n - t + 1 ≤ f → (∀ H' : Hp, Same H H' → Q (.int (Kp318.replyUp b (n - t) t ps k)) H') → R) : R := by
  obtain ⟨g, l, n, b, t, k, ps, e, hG, hb, hP, len, ht, hf, q⟩ := h
  exact go g l n b t k ps e hG hb hP len ht hf q
theorem spBest.len {C : Addr} {f : Nat} {vs : List V} {H : Hp} {Q : VK} {E : XK} (h : spBest C f vs H Q E) : vs.length = 4 := by
  obtain ⟨g, l, n, b, t, k, ps, rfl, _⟩ := h
  rfl
theorem spDare.elim {C : Addr} {f : Nat} {vs : List V} {H : Hp} {Q : VK} {E : XK} {R : Prop} (h : spDare C f vs H Q E) (go : ∀ (g l : Addr) (n b t k : Nat) (ps : List Kp318.Plan), vs = [.ref g, .ref l, .int (t : Int), .int (k : Int)] → GameAt C H g n b → b ≤ 1000 → PL H l ps → ps.length ≤ 1000 → t < n → 0 < k → n - t ≤ f → (∀ H' : Hp, Same H H' → Q (.int (Kp318.dares b n t ps k)) H') → R) : R := by
  obtain ⟨g, l, n, b, t, k, ps, e, hG, hb, hP, len, ht, hk, hf, q⟩ := h
  exact go g l n b t k ps e hG hb hP len ht hk hf q
theorem spDare.len {C : Addr} {f : Nat} {vs : List V} {H : Hp} {Q : VK} {E : XK} (h : spDare C f vs H Q E) : vs.length = 4 := by
  obtain ⟨g, l, n, b, t, k, ps, rfl, _⟩ := h
  rfl
theorem spWait.elim {C : Addr} {f : Nat} {vs : List V} {H : Hp} {Q : VK} {E : XK} {R : Prop} (h : spWait C f vs H Q E) (go : ∀ (g l : Addr) (n b t k : Nat) (ps : List Kp318.Plan), vs = [.ref g, .ref l, .int (t : Int), .int (k : Int)] → GameAt C H g n b → b ≤ 1000 → PL H l ps → ps.length ≤ 1000 → t < n → n - t ≤ f → (∀ H' : Hp, Same H H' → Q (.int (Kp318.waits b n t ps k)) H') → R) : R := by
  obtain ⟨g, l, n, b, t, k, ps, e, hG, hb, hP, len, ht, hf, q⟩ := h
  exact go g l n b t k ps e hG hb hP len ht hf q
theorem spWait.len {C : Addr} {f : Nat} {vs : List V} {H : Hp} {Q : VK} {E : XK} (h : spWait C f vs H Q E) : vs.length = 4 := by
  obtain ⟨g, l, n, b, t, k, ps, rfl, _⟩ := h
  rfl
theorem spPlayed.elim {C : Addr} {f : Nat} {vs : List V} {H : Hp} {Q : VK} {E : XK} {R : Prop} (h : spPlayed C f vs H Q E) (go : ∀ (g l : Addr) (n b t k : Nat) (ps : List Kp318.Plan), vs = [.ref g, .ref l, .int (t : Int), .int (k : Int)] → GameAt C H g n b → b ≤ 1000 → PL H l ps → ps.length ≤ 1000 → t ≤ n → n - t + 1 ≤ f → (∀ (H' : Hp) (p : Addr), Same H H' → H p = none → H' p = some (.tup [.int ((Kp318.outcomeUp b n (n - t) t ps k).1 : Int), .int ((Kp318.outcomeUp b n (n - t) t ps k).2 : Int)]) → Q (.ref p) H') → R) : R := by
  obtain ⟨g, l, n, b, t, k, ps, e, hG, hb, hP, len, ht, hf, q⟩ := h
  exact go g l n b t k ps e hG hb hP len ht hf q
theorem spPlayed.len {C : Addr} {f : Nat} {vs : List V} {H : Hp} {Q : VK} {E : XK} (h : spPlayed C f vs H Q E) : vs.length = 4 := by
  obtain ⟨g, l, n, b, t, k, ps, rfl, _⟩ := h
  rfl
noncomputable def ends (n t k : Nat) (ps : List Kp318.Plan) : Bool := decide (t = n) || (decide (k = 0) || ps.isEmpty)
noncomputable def spEnd (C : Addr) : Sp := fun vs H Q _ => ∃ (g l : Addr) (n b t k : Nat) (ps : List Kp318.Plan), vs = [.ref g, .ref l, .int (t : Int), .int (k : Int)] ∧ GameAt C H g n b ∧ PL H l ps ∧ Q (.bl (ends n t k ps)) H
noncomputable abbrev pB : List Str := ["self", "plans", "day", "misdeeds"]
theorem scEnd : FnScope pB pB (defScope (inClass (top 12) 1)) := ⟨rfl, rfl, rfl, by decide +kernel, rfl, by decide +kernel, by decide +kernel⟩
theorem scBest : FnScope pB pB (defScope (inClass (top 12) 2)) := ⟨rfl, rfl, rfl, by decide +kernel, rfl, by decide +kernel, by decide +kernel⟩
theorem scDare : FnScope ["self", "plans", "day", "misdeeds", "unseen", "lost"] pB (defScope (inClass (top 12) 3)) := ⟨rfl, rfl, rfl, by decide +kernel, rfl, by decide +kernel, by decide +kernel⟩
theorem scWait : FnScope ["self", "plans", "day", "misdeeds", "looked_at"] pB (defScope (inClass (top 12) 4)) := ⟨rfl, rfl, rfl, by decide +kernel, rfl, by decide +kernel, by decide +kernel⟩
theorem scPlayed : FnScope ["self", "plans", "day", "misdeeds", "seen", "unseen", "behind", "looked_at", "left_alone"] pB (defScope (inClass (top 12) 5)) := ⟨rfl, rfl, rfl, by decide +kernel, rfl, by decide +kernel, by decide +kernel⟩
/-- a method that others call -/
structure CalM (P : Program) (w : World) (K : PySem.W.Frag) (mg : Str → Option Value) (base : Heap) (k : Nat) (C : Addr) (m : Str) (ps : List Str) (sp : Sp) (f : Addr) (fd : FuncData) : Prop where
  ok : FnOk P w K mg base CX0 k f fd ps sp
  mt : Meth K C m f
  bd : Binds K fd ps []
theorem len_part (c : Kp318.Plan → Bool) {ps : List Kp318.Plan} (h : ps.length ≤ 1000) : (ps.filter c).length ≤ 1000 := Nat.le_trans (List.length_filter_le _ _) h
theorem reply_ends {n t k b : Nat} {ps : List Kp318.Plan} (c : ends n t k ps = true) : Kp318.replyUp b (n - t) t ps k = 0 := by
  unfold ends at c
  rw [Bool.or_eq_true, Bool.or_eq_true] at c
  rcases c with c | c | c
  · have e := of_decide_eq_true c
    rw [e, Nat.sub_self]
    rfl
  · have e := of_decide_eq_true c
    rw [e]
    exact Mth.reply_none _ _ _ _
  · have e : ps = [] := List.isEmpty_iff.mp c
    rw [e]
    exact Mth.reply_nil _ _ _ _
theorem not_ends {n t k : Nat} {ps : List Kp318.Plan} (ht : t ≤ n) (c : ¬ ends n t k ps = true) : t < n ∧ 0 < k ∧ ps ≠ [] := by
  unfold ends at c
  rw [Bool.or_eq_true, Bool.or_eq_true] at c
  refine ⟨?_, ?_, ?_⟩
  · have : ¬ t = n := fun e => c (.inl (decide_eq_true e))
    omega
  · have : ¬ k = 0 := fun e => c (.inr (.inl (decide_eq_true e)))
    omega
  · exact fun e => c (.inr (.inr (by rw [e]; rfl)))
theorem reply_max {b n t k : Nat} {ps : List Kp318.Plan} (ht : t < n) (hk : 0 < k) (hp : ps ≠ []) :
    Kp318.replyUp b (n - t) t ps k = (if Kp318.waits b n t ps k > Kp318.dares b n t ps k then Kp318.waits b n t ps k else Kp318.dares b n t ps k) := by
  have e : n - t = (n - (t + 1)) + 1 := by omega
  rw [e]
  unfold Kp318.replyUp
  have e1 : ps.isEmpty = false := by cases ps <;> simp at *
  rw [e1]
  have hk' : ¬ k = 0 := by omega
  simp only [Bool.false_eq_true, if_false, if_neg hk']
  show max (Kp318.waits b n t ps k) (Kp318.dares b n t ps k) = _
  split <;> omega
theorem outcome_ends {n t k b : Nat} {ps : List Kp318.Plan} (c : ends n t k ps = true) : Kp318.outcomeUp b n (n - t) t ps k = (0, 0) := by
  unfold ends at c
  rw [Bool.or_eq_true, Bool.or_eq_true] at c
  rcases c with c | c | c
  · have e := of_decide_eq_true c
    rw [e, Nat.sub_self]
    rfl
  · have e := of_decide_eq_true c
    rw [e]
    cases n - t with
    | zero => rfl
    | succ j =>
      unfold Kp318.outcomeUp
      rw [if_pos (.inr rfl)]
  · cases n - t with
    | zero => rfl
    | succ j =>
      unfold Kp318.outcomeUp
      rw [if_pos (.inl c)]
theorem outcome_step {b n t k : Nat} {ps : List Kp318.Plan} (ht : t < n) (hk : 0 < k) (hp : ps ≠ []) :
    Kp318.outcomeUp b n (n - t) t ps k = if Kp318.waits b n t ps k ≤ Kp318.dares b n t ps k then
        (Kp318.total (Kp318.with_ ps t) + (Kp318.outcomeUp b n (n - (t + 1)) (t + 1) (Kp318.without ps t) (k - 1)).1, Kp318.total (Kp318.without ps t) + (Kp318.outcomeUp b n (n - (t + 1)) (t + 1) (Kp318.without ps t) (k - 1)).2)
      else ((Kp318.outcomeUp b n (n - (t + 1)) (t + 1) (Kp318.with_ ps t) k).1 + (Kp318.outcomeUp b n (n - (t + 1)) (t + 1) (Kp318.without ps t) k).1,
        (Kp318.outcomeUp b n (n - (t + 1)) (t + 1) (Kp318.with_ ps t) k).2 + (Kp318.outcomeUp b n (n - (t + 1)) (t + 1) (Kp318.without ps t) k).2) := by
  have e : n - t = (n - (t + 1)) + 1 := by omega
  rw [e]
  have e1 : ¬ (ps.isEmpty = true ∨ k = 0) := by
    intro z
    rcases z with z | z
    · exact hp (List.isEmpty_iff.mp z)
    · omega
  show (if ps.isEmpty = true ∨ k = 0 then _ else _) = _
  rw [if_neg e1]
  split
  · rw [Nat.add_comm (Kp318.total (Kp318.with_ ps t)), Nat.add_comm (Kp318.total (Kp318.without ps t))]
  · rfl
/-! readings of the methods' calls by a lemma -/
section
variable {C : Addr} {j : Nat} {σ : L2.St} {H : Hp} {Q : VK} {g l dx : Addr} {n b t k : Nat} {ps : List Kp318.Plan}
noncomputable abbrev tArgs : TA := tCons (tVar 1) (tCons (tVar 2) (tCons (tVar 3) tNil))
theorem r_end {r : L2.St} (e : σ = some (.ref g) :: some (.ref l) :: some (.int (t : Int)) :: some (.int (k : Int)) :: r) (hg : H g = some (.ins C dx (gf n b))) (hP : PL H l ps) (q : Q (.bl (ends n t k ps)) H) : tMeth C "ended" (spEnd C) [] E0 (tVar 0) tArgs σ H Q := by
  subst e
  exact r_meth rfl hg (gf_no n b (by decide +kernel) (by decide +kernel)) ⟨_, rfl, _, rfl, _, rfl, g, l, n, b, t, k, ps, rfl, ⟨dx, hg⟩, hP, q⟩
theorem r_dare {r : L2.St} (e : σ = some (.ref g) :: some (.ref l) :: some (.int (t : Int)) :: some (.int (k : Int)) :: r) (hg : H g = some (.ins C dx (gf n b))) (hb : b ≤ 1000) (hP : PL H l ps) (len : ps.length ≤ 1000) (ht : t < n) (hk : 0 < k) (hf : n - t ≤ j)
    (q : ∀ H' : Hp, Same H H' → Q (.int (Kp318.dares b n t ps k)) H') : tMeth C "daring" (spDare C j) [] E0 (tVar 0) tArgs σ H Q := by
  subst e
  exact r_meth rfl hg (gf_no n b (by decide +kernel) (by decide +kernel)) ⟨_, rfl, _, rfl, _, rfl, g, l, n, b, t, k, ps, rfl, ⟨dx, hg⟩, hb, hP, len, ht, hk, hf, q⟩
theorem r_wait {r : L2.St} (e : σ = some (.ref g) :: some (.ref l) :: some (.int (t : Int)) :: some (.int (k : Int)) :: r) (hg : H g = some (.ins C dx (gf n b))) (hb : b ≤ 1000) (hP : PL H l ps) (len : ps.length ≤ 1000) (ht : t < n) (hf : n - t ≤ j)
    (q : ∀ H' : Hp, Same H H' → Q (.int (Kp318.waits b n t ps k)) H') : tMeth C "waiting" (spWait C j) [] E0 (tVar 0) tArgs σ H Q := by
  subst e
  exact r_meth rfl hg (gf_no n b (by decide +kernel) (by decide +kernel)) ⟨_, rfl, _, rfl, _, rfl, g, l, n, b, t, k, ps, rfl, ⟨dx, hg⟩, hb, hP, len, ht, hf, q⟩
end
theorem ok_end {C : Addr} (F : Fun K "ended" "Game.ended" (inClass (top 12) 1) f fd) (T : GTxt K C) (ml : mg "len" = none) : FnOk P w K mg base CX0 1 f fd pB (spEnd C) := by
  refine F.ok scEnd (fun vs H Q E h => ?_) (fun cdv A outer s0 H vs Q E hr h => ?_)
  · obtain ⟨g, l, n, b, t, k, ps, rfl, _⟩ := h
    rfl
  · obtain ⟨g, l, n, b, t, k, ps, rfl, ⟨dx, hg⟩, ⟨rs, hl, pr⟩, q⟩ := h
    refine ⟨_, pss_one (ps_ret (pe_or (pe_cmpR op_eq (pv 2) (pe_fld (pv 0) rfl) (nomark _)) (pe_or (pe_cmpR op_eq (pv 3) pe_int (nomark _)) (pe_one (pe_cmpR op_eq (pe_callB call_len_seq rfl ml PySem.boot_len (pa_cons (pv 1) pa_nil)) pe_int (nomark _)))))), ?_⟩
    unfold ends at q
    refine ⟨_, rfl, _, rfl, g, C, dx, _, _, rfl, hg, T.cl, T.nD, gf_days n b, rfl, _, rfl, ?_⟩
    refine ite2 (fun c => ?_) (fun c => ?_)
    · have c' : V.int (t : Int) = V.int (n : Int) := of_decide_eq_true c
      have e : t = n := int_eq c'
      rw [decide_eq_true e, Bool.true_or] at q
      exact q
    have c' : ¬ V.int (t : Int) = V.int (n : Int) := of_decide_eq_false (Bool.eq_false_iff.mpr c)
    have htn : ¬ t = n := fun e => c' (by rw [e])
    rw [decide_eq_false htn, Bool.false_or] at q
    refine ⟨_, rfl, rfl, _, rfl, ?_⟩
    refine ite2 (fun c => ?_) (fun c => ?_)
    · have c' : V.int (k : Int) = V.int 0 := of_decide_eq_true c
      have e : k = 0 := int_zero c'
      rw [decide_eq_true e, Bool.true_or] at q
      exact q
    have c' : ¬ V.int (k : Int) = V.int 0 := of_decide_eq_false (Bool.eq_false_iff.mpr c)
    have hk : ¬ k = 0 := fun e => c' (by rw [e]; rfl)
    rw [decide_eq_false hk, Bool.false_or] at q
    refine ⟨_, rfl, l, _, rfl, .inl (SqL.of hl), rfl, ?_⟩
    have el : (rs.map V.ref).length = ps.length := by rw [List.length_map, Paired.length pr]
    have e : decide (V.int ((rs.map V.ref).length : Int) = V.int 0) = ps.isEmpty := by
      rw [el]
      cases ps with
      | nil => rfl
      | cons p ps =>
        refine decide_eq_false fun z => ?_
        injection z with z
        have z' : ((ps.length + 1 : Nat) : Int) = 0 := z
        omega
    have z : Q (.bl (decide (V.int ((rs.map V.ref).length : Int) = V.int 0))) H := by rw [e]; exact q
    exact z
theorem ok_best {C fE fD fW : Addr} {fdE fdD fdW : FuncData} {j u : Nat} (hu : 1 ≤ u) (F : Fun K "best" "Game.best" (inClass (top 12) 2) f fd) (T : GTxt K C) (mm : mg "max" = none) (En : CalM P w K mg base 1 C "ended" pB (spEnd C) fE fdE)
    (D : CalM P w K mg base u C "daring" pB (spDare C j) fD fdD) (W : CalM P w K mg base u C "waiting" pB (spWait C j) fW fdW) : FnOk P w K mg base CX0 (u + 1) f fd pB (spBest C (j + 1)) := by
  refine F.ok scBest (fun vs H Q E h => ?_) (fun cdv A outer s0 H vs Q E hr h => ?_)
  · exact h.len
  · refine h.elim fun g l n b t k ps ev hG hb hP len ht hf q => ?_
    subst ev
    obtain ⟨dx, hg⟩ := hG
    have hr1 : Room 1 _ := hr.mono hu
    refine ⟨_, pss_cons (ps_if (pt_val (pe_meth (pv 0) T.cl En.mt En.ok hr1 En.bd .nil pass0 (pa_cons (pv 1) (pa_cons (pv 2) (pa_cons (pv 3) pa_nil))))) (pss_one (ps_ret pe_int)) pss_nil)
      (pss_one (ps_ret (pe_callB (call_max2 rfl) rfl mm PyProof.Rows.boot_max (pa_cons (pe_meth (pv 0) T.cl D.mt D.ok hr D.bd .nil pass0 (pa_cons (pv 1) (pa_cons (pv 2) (pa_cons (pv 3) pa_nil))))
        (pa_cons (pe_meth (pv 0) T.cl W.mt W.ok hr W.bd .nil pass0 (pa_cons (pv 1) (pa_cons (pv 2) (pa_cons (pv 3) pa_nil)))) pa_nil))))), ?_⟩
    refine r_end rfl (hg) (hP) ⟨_, rfl, ?_⟩
    refine ite2 (fun c => ?_) (fun c => ?_)
    · have z := q H (Same.refl H)
      rw [reply_ends c] at z
      exact z
    obtain ⟨htn, hk, hp⟩ := not_ends ht c
    refine r_dare rfl (hg) hb (hP) len htn hk (Nat.le_of_succ_le_succ hf) fun H1 sm1 => ?_
    refine r_wait rfl (sm1 _ _ hg) hb (hP.same sm1) len htn (Nat.le_of_succ_le_succ hf) fun H2 sm2 => ?_
    refine ⟨_, _, rfl, ?_⟩
    have z := q H2 (sm1.trans sm2)
    rw [reply_max htn hk hp] at z
    exact z
theorem ok_dare {C fB fL fR fW : Addr} {fdB fdL fdR fdW : FuncData} {j u : Nat} (hu : 2 ≤ u) (F : Fun K "daring" "Game.daring" (inClass (top 12) 3) f fd) (T : GTxt K C)
    (B : CalM P w K mg base u C "best" pB (spBest C j) fB fdB) (L : Cal P w K mg base 2 "looking" ["plans", "day"] (spPart Kp318.with_) fL fdL) (R : Cal P w K mg base 2 "resting" ["plans", "day"] (spPart Kp318.without) fR fdR) (Wt : Cal P w K mg base 2 "weight_of" ["plans"] spWeight fW fdW) :
    FnOk P w K mg base CX0 (u + 1) f fd pB (spDare C j) := by
  refine F.ok scDare (fun vs H Q E h => ?_) (fun cdv A outer s0 H vs Q E hr h => ?_)
  · exact h.len
  · refine h.elim fun g l n b t k ps ev hG hb hP len ht hk hf q => ?_
    subst ev
    obtain ⟨dx, hg⟩ := hG
    have hr2 : Room 2 _ := hr.mono hu
    refine ⟨_, pss_cons (ps_set (i := 4) scDare.nd rfl (Or.inl rfl) (pe_call R.ok hr2 rfl R.mg R.kp R.bd .nil pass0 (pa_cons (pv 1) (pa_cons (pv 2) pa_nil))))
      (pss_cons (ps_set (i := 5) scDare.nd rfl (Or.inl rfl) (pe_op op_mul (pe_fld (pv 0) rfl) (pe_call Wt.ok hr2 rfl Wt.mg Wt.kp Wt.bd .nil pass0 (pa_cons (pe_call L.ok hr2 rfl L.mg L.kp L.bd .nil pass0 (pa_cons (pv 1) (pa_cons (pv 2) pa_nil))) pa_nil))))
      (pss_one (ps_ret (pe_op op_sub (pe_op op_add (pe_call Wt.ok hr2 rfl Wt.mg Wt.kp Wt.bd .nil pass0 (pa_cons (pv 4) pa_nil)) (pe_meth (pv 0) T.cl B.mt B.ok hr B.bd .nil pass0 (pa_cons (pv 4) (pa_cons (pe_op op_add (pv 2) pe_int) (pa_cons (pe_op op_sub (pv 3) pe_int) pa_nil))))) (pv 5))))), ?_⟩
    refine r_part rfl rfl (hP) len fun H1 p1 s1 _ h1 => ?_
    refine ⟨_, rfl, g, C, dx, _, _, rfl, s1 _ _ hg, T.cl, T.nF, gf_fine n b, _, rfl, _, rfl, l, t, ps, rfl, hP.same s1, len, fun H2 p2 s2 _ h2 => ?_⟩
    refine ⟨p2, _, rfl, h2, len_part _ len, fun H3 s3 => ?_⟩
    refine ⟨_, _, rfl, rfl, mul_l (Nat.le_trans hb (by decide)), ?_⟩
    have s13 : Same H1 H3 := s2.trans s3
    refine r_wt rfl (h1.same s13) (len_part _ len) fun H4 s4 => ?_
    have s04 : Same H H4 := (s1.trans s13).trans s4
    refine r_meth rfl (s04 _ _ hg) (gf_no n b (by decide +kernel) (by decide +kernel)) ⟨_, rfl, _, rfl, _, _, rfl, rfl, _, rfl, _, _, rfl, rfl, ?_⟩
    refine ⟨g, p1, n, b, t + 1, k - 1, _, ?_, ⟨dx, s04 _ _ hg⟩, hb, h1.same (s13.trans s4), len_part _ len, ht, days_less ht hf, fun H5 s5 => ?_⟩
    · show [V.ref g, V.ref p1, V.int ((t : Int) + 1), V.int ((k : Int) - 1)] = _
      have e : ((k - 1 : Nat) : Int) = (k : Int) - 1 := by omega
      rw [e]
      rfl
    refine ⟨_, _, rfl, rfl, _, rfl, _, _, rfl, rfl, ?_⟩
    have z := q H5 (s04.trans s5)
    have e : Kp318.dares b n t ps k = (Kp318.total (Kp318.without ps t) : Int) + Kp318.replyUp b (n - (t + 1)) (t + 1) (Kp318.without ps t) (k - 1) - (b : Int) * (Kp318.total (Kp318.with_ ps t) : Int) := by
      unfold Kp318.dares
      omega
    rw [e] at z
    exact z
theorem ok_wait {C fB fL fR : Addr} {fdB fdL fdR : FuncData} {j u : Nat} (hu : 2 ≤ u) (F : Fun K "waiting" "Game.waiting" (inClass (top 12) 4) f fd) (T : GTxt K C)
    (B : CalM P w K mg base u C "best" pB (spBest C j) fB fdB) (L : Cal P w K mg base 2 "looking" ["plans", "day"] (spPart Kp318.with_) fL fdL) (R : Cal P w K mg base 2 "resting" ["plans", "day"] (spPart Kp318.without) fR fdR) :
    FnOk P w K mg base CX0 (u + 1) f fd pB (spWait C j) := by
  refine F.ok scWait (fun vs H Q E h => ?_) (fun cdv A outer s0 H vs Q E hr h => ?_)
  · exact h.len
  · refine h.elim fun g l n b t k ps ev hG hb hP len ht hf q => ?_
    subst ev
    obtain ⟨dx, hg⟩ := hG
    have hr2 : Room 2 _ := hr.mono hu
    refine ⟨_, pss_cons (ps_set (i := 4) scWait.nd rfl (Or.inl rfl) (pe_meth (pv 0) T.cl B.mt B.ok hr B.bd .nil pass0 (pa_cons (pe_call L.ok hr2 rfl L.mg L.kp L.bd .nil pass0 (pa_cons (pv 1) (pa_cons (pv 2) pa_nil))) (pa_cons (pe_op op_add (pv 2) pe_int) (pa_cons (pv 3) pa_nil)))))
      (pss_one (ps_ret (pe_op op_add (pv 4) (pe_meth (pv 0) T.cl B.mt B.ok hr B.bd .nil pass0 (pa_cons (pe_call R.ok hr2 rfl R.mg R.kp R.bd .nil pass0 (pa_cons (pv 1) (pa_cons (pv 2) pa_nil))) (pa_cons (pe_op op_add (pv 2) pe_int) (pa_cons (pv 3) pa_nil))))))), ?_⟩
    refine r_meth rfl (hg) (gf_no n b (by decide +kernel) (by decide +kernel)) ⟨_, rfl, _, rfl, l, t, ps, rfl, hP, len, fun H1 p1 s1 _ h1 => ?_⟩
    refine ⟨_, rfl, _, _, rfl, rfl, _, rfl, g, p1, n, b, t + 1, k, _, rfl, ⟨dx, s1 _ _ hg⟩, hb, h1, len_part _ len, ht, days_less ht hf, fun H2 s2 => ?_⟩
    have s02 : Same H H2 := s1.trans s2
    refine ⟨_, rfl, r_meth rfl (s02 _ _ hg) (gf_no n b (by decide +kernel) (by decide +kernel)) ⟨_, rfl, _, rfl, l, t, ps, rfl, hP.same s02, len, fun H3 p3 s3 _ h3 => ?_⟩⟩
    have s03 : Same H H3 := s02.trans s3
    refine ⟨_, rfl, _, _, rfl, rfl, _, rfl, g, p3, n, b, t + 1, k, _, rfl, ⟨dx, s03 _ _ hg⟩, hb, h3, len_part _ len, ht, days_less ht hf, fun H4 s4 => ?_⟩
    refine ⟨_, _, rfl, rfl, ?_⟩
    exact q H4 (s03.trans s4)
theorem ok_played {C fE fD fWt fL fR fW fP : Addr} {fdE fdD fdWt fdL fdR fdW fdP : FuncData} {j u v : Nat} (hu : 2 ≤ u) (hv : v ≤ u) (F : Fun K "played" "Game.played" (inClass (top 12) 5) f fd) (T : GTxt K C) (En : CalM P w K mg base 1 C "ended" pB (spEnd C) fE fdE)
    (D : CalM P w K mg base u C "daring" pB (spDare C j) fD fdD) (W : CalM P w K mg base u C "waiting" pB (spWait C j) fWt fdWt) (Pd : CalM P w K mg base v C "played" pB (spPlayed C j) fP fdP)
    (L : Cal P w K mg base 2 "looking" ["plans", "day"] (spPart Kp318.with_) fL fdL) (R : Cal P w K mg base 2 "resting" ["plans", "day"] (spPart Kp318.without) fR fdR) (Wt : Cal P w K mg base 2 "weight_of" ["plans"] spWeight fW fdW) :
    FnOk P w K mg base CX0 (u + 1) f fd pB (spPlayed C (j + 1)) := by
  refine F.ok scPlayed (fun vs H Q E h => ?_) (fun cdv A outer s0 H vs Q E hr h => ?_)
  · exact h.len
  · refine h.elim fun g l n b t k ps ev hG hb hP len ht hf q => ?_
    subst ev
    obtain ⟨dx, hg⟩ := hG
    have hr1 : Room 1 _ := hr.mono (by omega)
    have hr2 : Room 2 _ := hr.mono hu
    have hrP : Room v _ := hr.mono hv
    refine ⟨_, pss_cons (ps_if (pt_val (pe_meth (pv 0) T.cl En.mt En.ok hr1 En.bd .nil pass0 (pa_cons (pv 1) (pa_cons (pv 2) (pa_cons (pv 3) pa_nil))))) (pss_one (ps_ret (pe_tup (pa_cons pe_int (pa_cons pe_int pa_nil))))) pss_nil)
      (pss_cons (ps_set (i := 4) scPlayed.nd rfl (Or.inl rfl) (pe_call L.ok hr2 rfl L.mg L.kp L.bd .nil pass0 (pa_cons (pv 1) (pa_cons (pv 2) pa_nil))))
      (pss_cons (ps_set (i := 5) scPlayed.nd rfl (Or.inl rfl) (pe_call R.ok hr2 rfl R.mg R.kp R.bd .nil pass0 (pa_cons (pv 1) (pa_cons (pv 2) pa_nil))))
      (pss_cons (ps_if (pt_cmpR op_ge (pe_meth (pv 0) T.cl D.mt D.ok hr D.bd .nil pass0 (pa_cons (pv 1) (pa_cons (pv 2) (pa_cons (pv 3) pa_nil)))) (pe_meth (pv 0) T.cl W.mt W.ok hr W.bd .nil pass0 (pa_cons (pv 1) (pa_cons (pv 2) (pa_cons (pv 3) pa_nil)))) (nomark _))
        (pss_cons (ps_set (i := 6) scPlayed.nd rfl (Or.inl rfl) (pe_meth (pv 0) T.cl Pd.mt Pd.ok hrP Pd.bd .nil pass0 (pa_cons (pv 5) (pa_cons (pe_op op_add (pv 2) pe_int) (pa_cons (pe_op op_sub (pv 3) pe_int) pa_nil)))))
        (pss_one (ps_ret (pe_tup (pa_cons (pe_op op_add (pe_call Wt.ok hr2 rfl Wt.mg Wt.kp Wt.bd .nil pass0 (pa_cons (pv 4) pa_nil)) (pe_ix ix_tup (pv 6) pe_int (fun _ _ => rfl)))
          (pa_cons (pe_op op_add (pe_call Wt.ok hr2 rfl Wt.mg Wt.kp Wt.bd .nil pass0 (pa_cons (pv 5) pa_nil)) (pe_ix ix_tup (pv 6) pe_int (fun _ _ => rfl))) pa_nil)))))) pss_nil)
      (pss_cons (ps_set (i := 7) scPlayed.nd rfl (Or.inl rfl) (pe_meth (pv 0) T.cl Pd.mt Pd.ok hrP Pd.bd .nil pass0 (pa_cons (pv 4) (pa_cons (pe_op op_add (pv 2) pe_int) (pa_cons (pv 3) pa_nil)))))
      (pss_cons (ps_set (i := 8) scPlayed.nd rfl (Or.inl rfl) (pe_meth (pv 0) T.cl Pd.mt Pd.ok hrP Pd.bd .nil pass0 (pa_cons (pv 5) (pa_cons (pe_op op_add (pv 2) pe_int) (pa_cons (pv 3) pa_nil)))))
      (pss_one (ps_ret (pe_tup (pa_cons (pe_op op_add (pe_ix ix_tup (pv 7) pe_int (fun _ _ => rfl)) (pe_ix ix_tup (pv 8) pe_int (fun _ _ => rfl))) (pa_cons (pe_op op_add (pe_ix ix_tup (pv 7) pe_int (fun _ _ => rfl)) (pe_ix ix_tup (pv 8) pe_int (fun _ _ => rfl))) pa_nil)))))))))), ?_⟩
    refine r_end rfl (hg) (hP) ⟨_, rfl, ?_⟩
    refine ite2 (fun c => ?_) (fun c => ?_)
    · refine ⟨(by show 2 ≤ sizeLine; decide), fun r hr' => ?_⟩
      refine q _ r (same_new hr' _) hr' ?_
      rw [upd_same, outcome_ends c]
      rfl
    obtain ⟨htn, hk, hp⟩ := not_ends ht c
    refine r_part rfl rfl (hP) len fun H1 p1 s1 _ h1 => ?_
    refine r_part rfl rfl (hP.same s1) len fun H2 p2 s2 _ h2 => ?_
    have s02 : Same H H2 := s1.trans s2
    refine r_dare rfl (s02 _ _ hg) hb (hP.same s02) len htn hk (Nat.le_of_succ_le_succ hf) fun H3 s3 => ?_
    have s03 : Same H H3 := s02.trans s3
    refine r_wait rfl (s03 _ _ hg) hb (hP.same s03) len htn (Nat.le_of_succ_le_succ hf) fun H4 s4 => ?_
    have s04 : Same H H4 := s03.trans s4
    have s24 : Same H2 H4 := s3.trans s4
    have os := outcome_step (b := b) htn hk hp
    refine ⟨_, _, rfl, rfl, _, rfl, ?_⟩
    refine ite2 (fun c2 => ?_) (fun c2 => ?_)
    · have c3 : Kp318.waits b n t ps k ≤ Kp318.dares b n t ps k := of_decide_eq_true c2
      rw [if_pos c3] at os
      refine r_meth rfl (s04 _ _ hg) (gf_no n b (by decide +kernel) (by decide +kernel)) ⟨_, rfl, _, rfl, _, _, rfl, rfl, _, rfl, _, _, rfl, rfl, ?_⟩
      refine ⟨g, p2, n, b, t + 1, k - 1, _, ?_, ⟨dx, s04 _ _ hg⟩, hb, h2.same s24, len_part _ len, htn, days_less htn (Nat.le_of_succ_le_succ hf), fun H5 p5 s5 n5 h5 => ?_⟩
      · show [V.ref g, V.ref p2, V.int ((t : Int) + 1), V.int ((k : Int) - 1)] = _
        have e : ((k - 1 : Nat) : Int) = (k : Int) - 1 := by omega
        rw [e]
        rfl
      refine r_wt rfl (h1.same ((s2.trans s24).trans s5)) (len_part _ len) fun H6 s6 => ?_
      refine ⟨_, rfl, p5, _, _, _, rfl, rfl, SqT.of (s6 _ _ h5), rfl, _, _, rfl, rfl, ?_⟩
      refine r_wt rfl (h2.same ((s24.trans s5).trans s6)) (len_part _ len) fun H7 s7 => ?_
      refine ⟨_, rfl, p5, _, _, _, rfl, rfl, SqT.of (s7 _ _ (s6 _ _ h5)), rfl, _, _, rfl, rfl, (by show 2 ≤ sizeLine; decide), fun r hr' => ?_⟩
      have s07 : Same H H7 := ((s04.trans s5).trans s6).trans s7
      refine q _ r (s07.trans (same_new hr' _)) (s07.free hr') ?_
      rw [upd_same, os]
      rfl
    · have c3 : ¬ Kp318.waits b n t ps k ≤ Kp318.dares b n t ps k := of_decide_eq_false (Bool.eq_false_iff.mpr c2)
      rw [if_neg c3] at os
      refine r_meth rfl (s04 _ _ hg) (gf_no n b (by decide +kernel) (by decide +kernel)) ⟨_, rfl, _, rfl, _, _, rfl, rfl, _, rfl, ?_⟩
      refine ⟨g, p1, n, b, t + 1, k, _, rfl, ⟨dx, s04 _ _ hg⟩, hb, h1.same (s2.trans s24), len_part _ len, htn, days_less htn (Nat.le_of_succ_le_succ hf), fun H5 p5 s5 n5 h5 => ?_⟩
      have s05 : Same H H5 := s04.trans s5
      refine r_meth rfl (s05 _ _ hg) (gf_no n b (by decide +kernel) (by decide +kernel)) ⟨_, rfl, _, rfl, _, _, rfl, rfl, _, rfl, ?_⟩
      refine ⟨g, p2, n, b, t + 1, k, _, rfl, ⟨dx, s05 _ _ hg⟩, hb, h2.same (s24.trans s5), len_part _ len, htn, days_less htn (Nat.le_of_succ_le_succ hf), fun H6 p6 s6 n6 h6 => ?_⟩
      refine ⟨_, rfl, p5, _, _, _, rfl, rfl, SqT.of (s6 _ _ h5), rfl, _, rfl, p6, _, _, _, rfl, rfl, SqT.of h6, rfl, _, _, rfl, rfl, ?_⟩
      refine ⟨_, rfl, p5, _, _, _, rfl, rfl, SqT.of (s6 _ _ h5), rfl, _, rfl, p6, _, _, _, rfl, rfl, SqT.of h6, rfl, _, _, rfl, rfl, (by show 2 ≤ sizeLine; decide), fun r hr' => ?_⟩
      have s06 : Same H H6 := s05.trans s6
      refine q _ r (s06.trans (same_new hr' _)) (s06.free hr') ?_
      rw [upd_same, os]
      rfl
theorem no_best {C : Addr} : FnOk P w K mg base CX0 2 f fd pB (spBest C 0) := by
  have no : ∀ vs H Q E, ¬ spBest C 0 vs H Q E := fun vs H Q E h => by
    obtain ⟨g, l, n, b, t, k, ps, _, _, _, _, _, _, h, _⟩ := h
    omega
  exact ⟨fun vs H Q E h => absurd h (no vs H Q E), fun A outer s H args us vs Q E _ _ _ _ h => absurd h (no vs H Q E)⟩
theorem no_played {C : Addr} : FnOk P w K mg base CX0 2 f fd pB (spPlayed C 0) := by
  have no : ∀ vs H Q E, ¬ spPlayed C 0 vs H Q E := fun vs H Q E h => by
    obtain ⟨g, l, n, b, t, k, ps, _, _, _, _, _, _, h, _⟩ := h
    omega
  exact ⟨fun vs H Q E h => absurd h (no vs H Q E), fun A outer s H args us vs Q E _ _ _ _ h => absurd h (no vs H Q E)⟩
/-- what the game's methods lean on -/
structure GF (P : Program) (w : World) (K : PySem.W.Frag) (mg : Str → Option Value) (base : Heap) (C fE fB fD fWt fP fL fR fW : Addr) (fdE fdB fdD fdWt fdP fdL fdR fdW : FuncData) : Prop where
  T : GTxt K C
  En : CalM P w K mg base 1 C "ended" pB (spEnd C) fE fdE
  FB : Fun K "best" "Game.best" (inClass (top 12) 2) fB fdB
  FD : Fun K "daring" "Game.daring" (inClass (top 12) 3) fD fdD
  FW : Fun K "waiting" "Game.waiting" (inClass (top 12) 4) fWt fdWt
  FP : Fun K "played" "Game.played" (inClass (top 12) 5) fP fdP
  mB : Meth K C "best" fB
  mD : Meth K C "daring" fD
  mW : Meth K C "waiting" fWt
  mP : Meth K C "played" fP
  bB : Binds K fdB pB []
  bD : Binds K fdD pB []
  bW : Binds K fdWt pB []
  bP : Binds K fdP pB []
  mm : mg "max" = none
  L : Cal P w K mg base 2 "looking" ["plans", "day"] (spPart Kp318.with_) fL fdL
  R : Cal P w K mg base 2 "resting" ["plans", "day"] (spPart Kp318.without) fR fdR
  Wt : Cal P w K mg base 2 "weight_of" ["plans"] spWeight fW fdW
/-- the three, by induction -/
theorem game_all {C fE fB fD fWt fP fL fR fW : Addr} {fdE fdB fdD fdWt fdP fdL fdR fdW : FuncData} (G : GF P w K mg base C fE fB fD fWt fP fL fR fW fdE fdB fdD fdWt fdP fdL fdR fdW) :
    ∀ j : Nat, FnOk P w K mg base CX0 (2 * j + 2) fB fdB pB (spBest C j) ∧ FnOk P w K mg base CX0 (2 * j + 3) fD fdD pB (spDare C j) ∧ FnOk P w K mg base CX0 (2 * j + 3) fWt fdWt pB (spWait C j)
  | 0 => by
    have b0 : FnOk P w K mg base CX0 2 fB fdB pB (spBest C 0) := no_best
    exact ⟨b0, ok_dare (by omega) G.FD G.T ⟨b0, G.mB, G.bB⟩ G.L G.R G.Wt, ok_wait (by omega) G.FW G.T ⟨b0, G.mB, G.bB⟩ G.L G.R⟩
  | j + 1 => by
    obtain ⟨_, hd, hw⟩ := game_all G j
    have b1 : FnOk P w K mg base CX0 (2 * (j + 1) + 2) fB fdB pB (spBest C (j + 1)) := ok_best (u := 2 * j + 3) (by omega) G.FB G.T G.mm G.En ⟨hd, G.mD, G.bD⟩ ⟨hw, G.mW, G.bW⟩
    exact ⟨b1, ok_dare (by omega) G.FD G.T ⟨b1, G.mB, G.bB⟩ G.L G.R G.Wt, ok_wait (by omega) G.FW G.T ⟨b1, G.mB, G.bB⟩ G.L G.R⟩
theorem played_all {C fE fB fD fWt fP fL fR fW : Addr} {fdE fdB fdD fdWt fdP fdL fdR fdW : FuncData} (G : GF P w K mg base C fE fB fD fWt fP fL fR fW fdE fdB fdD fdWt fdP fdL fdR fdW) :
    ∀ j : Nat, FnOk P w K mg base CX0 (2 * j + 2) fP fdP pB (spPlayed C j)
  | 0 => no_played
  | j + 1 => by
    obtain ⟨_, hd, hw⟩ := game_all G j
    exact ok_played (u := 2 * j + 3) (v := 2 * j + 2) (by omega) (by omega) G.FP G.T G.En ⟨hd, G.mD, G.bD⟩ ⟨hw, G.mW, G.bW⟩ ⟨played_all G j, G.mP, G.bP⟩ G.L G.R G.Wt
end
end Pl

set_option Elab.async false
set_option linter.all false
set_option maxRecDepth 100000
set_option maxHeartbeats 2000000
namespace Pl
open PySem PySem.Spec PyProof.Rows L2
/-! ### the object's attributes -/
theorem put_hit (f : Str) (v x : V) (r : List (Str × V)) : putF f v ((f, x) :: r) = (f, v) :: r := by
  show (if f = f then _ else _) = _
  rw [if_pos rfl]
theorem put_skip {f g : Str} (h : ¬ g = f) (v x : V) (r : List (Str × V)) : putF f v ((g, x) :: r) = (g, x) :: putF f v r := by
  show (if g = f then _ else _) = _
  rw [if_neg h]
theorem look_hit (f : Str) (x : V) (r : List (Str × V)) : List.lookup f ((f, x) :: r) = some x := by
  rw [List.lookup_cons]
  simp
theorem look_skip {f g : Str} (h : (f == g) = false) (x : V) (r : List (Str × V)) : List.lookup f ((g, x) :: r) = List.lookup f r := by
  rw [List.lookup_cons, h]
noncomputable def lf (g : Bool) (n k b : Int) (pl : Addr) : List (Str × V) := [("begun", .bl g), ("days", .int n), ("misdeeds", .int k), ("fine", .int b), ("plans", .ref pl)]
section
variable (g : Bool) (n k b : Int) (pl : Addr)
theorem lf_begun : (lf g n k b pl).lookup ("begun" : Str) = some (.bl g) := look_hit _ _ _
theorem lf_days : (lf g n k b pl).lookup ("days" : Str) = some (.int n) := by
  unfold lf
  rw [look_skip (by decide +kernel), look_hit]
theorem lf_misdeeds : (lf g n k b pl).lookup ("misdeeds" : Str) = some (.int k) := by
  unfold lf
  rw [look_skip (by decide +kernel), look_skip (by decide +kernel), look_hit]
theorem lf_fine : (lf g n k b pl).lookup ("fine" : Str) = some (.int b) := by
  unfold lf
  rw [look_skip (by decide +kernel), look_skip (by decide +kernel), look_skip (by decide +kernel), look_hit]
theorem lf_plans : (lf g n k b pl).lookup ("plans" : Str) = some (.ref pl) := by
  unfold lf
  rw [look_skip (by decide +kernel), look_skip (by decide +kernel), look_skip (by decide +kernel), look_skip (by decide +kernel), look_hit]
theorem lf_pBegun (g' : Bool) : putF "begun" (.bl g') (lf g n k b pl) = lf g' n k b pl := put_hit _ _ _ _
theorem lf_pDays (n' : Int) : putF "days" (.int n') (lf g n k b pl) = lf g n' k b pl := by
  unfold lf
  rw [put_skip (by decide +kernel), put_hit]
theorem lf_pMisdeeds (k' : Int) : putF "misdeeds" (.int k') (lf g n k b pl) = lf g n k' b pl := by
  unfold lf
  rw [put_skip (by decide +kernel), put_skip (by decide +kernel), put_hit]
theorem lf_pFine (b' : Int) : putF "fine" (.int b') (lf g n k b pl) = lf g n k b' pl := by
  unfold lf
  rw [put_skip (by decide +kernel), put_skip (by decide +kernel), put_skip (by decide +kernel), put_hit]
theorem lf_pPlans (pl' : Addr) : putF "plans" (.ref pl') (lf g n k b pl) = lf g n k b pl' := by
  unfold lf
  rw [put_skip (by decide +kernel), put_skip (by decide +kernel), put_skip (by decide +kernel), put_skip (by decide +kernel), put_hit]
theorem lf_make : putF "plans" (.ref pl) (putF "fine" (.int b) (putF "misdeeds" (.int k) (putF "days" (.int n) (putF "begun" (.bl g) [])))) = lf g n k b pl := by
  have e1 : putF "begun" (.bl g) [] = [(("begun" : Str), V.bl g)] := rfl
  have e2 : putF "days" (.int n) [(("begun" : Str), V.bl g)] = [(("begun" : Str), V.bl g), ("days", V.int n)] := by
    rw [put_skip (by decide +kernel)]
    rfl
  have e3 : putF "misdeeds" (.int k) [(("begun" : Str), V.bl g), ("days", V.int n)] = [(("begun" : Str), V.bl g), ("days", V.int n), ("misdeeds", V.int k)] := by
    rw [put_skip (by decide +kernel), put_skip (by decide +kernel)]
    rfl
  have e4 : putF "fine" (.int b) [(("begun" : Str), V.bl g), ("days", V.int n), ("misdeeds", V.int k)] = [(("begun" : Str), V.bl g), ("days", V.int n), ("misdeeds", V.int k), ("fine", V.int b)] := by
    rw [put_skip (by decide +kernel), put_skip (by decide +kernel), put_skip (by decide +kernel)]
    rfl
  rw [e1, e2, e3, e4, put_skip (by decide +kernel), put_skip (by decide +kernel), put_skip (by decide +kernel), put_skip (by decide +kernel)]
  rfl
end
noncomputable def lfS : Kp318.State → Addr → List (Str × V)
  | none, pl => lf false 0 0 0 pl
  | some w, pl => lf true w.days w.misdeeds w.fine pl
noncomputable def plS : Kp318.State → List Kp318.Plan
  | none => []
  | some w => w.plans
structure WOk (w : Kp318.Watch) : Prop where
  d1 : 1 ≤ w.days
  d6 : w.days ≤ 6
  k6 : w.misdeeds ≤ 6
  b1 : 1 ≤ w.fine
  b9 : w.fine ≤ 9
  len : w.plans.length ≤ 10
  pls : ∀ p ∈ w.plans, p.set < 2 ^ w.days ∧ 0 < p.weight ∧ p.weight ≤ 1000000
theorem WOk.l1000 {w : Kp318.Watch} (k : WOk w) : w.plans.length ≤ 1000 := Nat.le_trans k.len (by decide)
theorem WOk.f1000 {w : Kp318.Watch} (k : WOk w) : w.fine ≤ 1000 := Nat.le_trans k.b9 (by decide)
theorem WOk.d1000 {w : Kp318.Watch} (k : WOk w) : w.days ≤ 1000 := Nat.le_trans k.d6 (by decide)
theorem WOk.d7 {w : Kp318.Watch} (k : WOk w) : w.days - 0 + 1 ≤ 7 := Nat.succ_le_succ k.d6
noncomputable def StOk : Kp318.State → Prop
  | none => True
  | some w => WOk w
structure LotsAt (C : Addr) (H : Hp) (a pl : Addr) (st : Kp318.State) : Prop where
  obj : ∃ dx, H a = some (.ins C dx (lfS st pl))
  pls : PL H pl (plS st)
  ok : StOk st
theorem LotsAt.same {C a pl : Addr} {H H' : Hp} {st : Kp318.State} (e : Same H H') (L : LotsAt C H a pl st) : LotsAt C H' a pl st := by
  obtain ⟨⟨dx, h⟩, h2, h3⟩ := L
  exact ⟨⟨dx, e _ _ h⟩, h2.same e, h3⟩
theorem LotsAt.ne {C a pl : Addr} {H : Hp} {st : Kp318.State} (L : LotsAt C H a pl st) : pl ≠ a := by
  obtain ⟨⟨dx, h⟩, ⟨rs, h2, _⟩, _⟩ := L
  exact ne_of h2 h (by intro e; cases e)
/-- what is wanted behind a call: the new state, a new list with the answer, all else as it was -/
noncomputable def Done (C : Addr) (H : Hp) (a pl : Addr) (st' : Kp318.State) (ans : List Int) (Q : VK) : Prop := ∀ (H' : Hp) (r pl' : Addr), LotsAt C H' a pl' st' → (pl' = pl ∨ H pl' = none) → H r = none → H' r = some (.lst (ans.map V.int)) →
  (∀ b o, H b = some o → b ≠ a → b ≠ pl → H' b = some o) → Q (.ref r) H'
noncomputable def ansOf (y : Kp318.State × Kp318.Ans) : List Int := y.2.num :: y.2.nums
noncomputable def DoneC (C : Addr) (H : Hp) (a pl : Addr) (st : Kp318.State) (c : Kp318.Call) (Q : VK) : Prop := Done C H a pl (Kp318.step st c).1 (ansOf (Kp318.step st c)) Q
theorem DoneC.as {C a pl : Addr} {H : Hp} {st st' : Kp318.State} {c : Kp318.Call} {x : Kp318.Ans} {Q : VK} (D : DoneC C H a pl st c Q) (e : Kp318.step st c = (st', x)) : Done C H a pl st' (x.num :: x.nums) Q := by
  unfold DoneC at D
  rw [e] at D
  exact D
theorem Done.same {C a pl r : Addr} {H H' : Hp} {st : Kp318.State} {ans : List Int} {Q : VK} (D : Done C H a pl st ans Q) (L : LotsAt C H a pl st) (sm : Same H H') (hr : H r = none) (hl : H' r = some (.lst (ans.map V.int))) : Q (.ref r) H' :=
  D H' r pl (L.same sm) (.inl rfl) hr hl fun b o e _ _ => sm b o e
theorem Done.one {C a pl r : Addr} {H H' : Hp} {st : Kp318.State} {v : Int} {Q : VK} (D : Done C H a pl st [v] Q) (L : LotsAt C H a pl st) (sm : Same H H') (hr : H' r = none) : Q (.ref r) (upd H' r (.lst [.int v])) :=
  D.same L (sm.trans (same_new hr _)) (sm.free hr) upd_same
noncomputable def sp0 (C : Addr) (need : Bool) (c : Kp318.Call) : Sp := fun vs H Q _ => ∃ (a pl : Addr) (w : Kp318.Watch), vs = [.ref a] ∧ LotsAt C H a pl (some w) ∧ (need = true → w.plans ≠ []) ∧ DoneC C H a pl (some w) c Q
noncomputable def sp1 (C : Addr) (need : Bool) (c : Nat → Kp318.Call) : Sp := fun vs H Q _ => ∃ (a pl : Addr) (w : Kp318.Watch) (x : Nat), vs = [.ref a, .int (x : Int)] ∧ LotsAt C H a pl (some w) ∧ (need = true → w.plans ≠ []) ∧ DoneC C H a pl (some w) (c x) Q
noncomputable def sp2 (C : Addr) (need : Bool) (c : Nat → Nat → Kp318.Call) : Sp := fun vs H Q _ => ∃ (a pl : Addr) (w : Kp318.Watch) (x y : Nat), vs = [.ref a, .int (x : Int), .int (y : Int)] ∧ LotsAt C H a pl (some w) ∧ (need = true → w.plans ≠ []) ∧ DoneC C H a pl (some w) (c x y) Q
noncomputable def sp3 (C : Addr) (need : Bool) (c : Nat → Nat → Nat → Kp318.Call) : Sp := fun vs H Q _ => ∃ (a pl : Addr) (w : Kp318.Watch) (x y z : Nat), vs = [.ref a, .int (x : Int), .int (y : Int), .int (z : Int)] ∧ LotsAt C H a pl (some w) ∧ (need = true → w.plans ≠ []) ∧ DoneC C H a pl (some w) (c x y z) Q
theorem sp0.len {C : Addr} {need : Bool} {c : Kp318.Call} {vs : List V} {H : Hp} {Q : VK} {E : XK} (h : sp0 C need c vs H Q E) : vs.length = 1 := by
  obtain ⟨a, pl, w, rfl, _⟩ := h
  rfl
theorem sp0.elim {C : Addr} {need : Bool} {c : Kp318.Call} {vs : List V} {H : Hp} {Q : VK} {E : XK} {R : Prop} (h : sp0 C need c vs H Q E)
    (go : ∀ (a pl : Addr) (w : Kp318.Watch), vs = [.ref a] → LotsAt C H a pl (some w) → (need = true → w.plans ≠ []) → DoneC C H a pl (some w) c Q → R) : R := by
  obtain ⟨a, pl, w, e, L, n, D⟩ := h
  exact go a pl w e L n D
theorem sp1.len {C : Addr} {need : Bool} {c : Nat → Kp318.Call} {vs : List V} {H : Hp} {Q : VK} {E : XK} (h : sp1 C need c vs H Q E) : vs.length = 2 := by
  obtain ⟨a, pl, w, x, rfl, _⟩ := h
  rfl
theorem sp1.elim {C : Addr} {need : Bool} {c : Nat → Kp318.Call} {vs : List V} {H : Hp} {Q : VK} {E : XK} {R : Prop} (h : sp1 C need c vs H Q E)
    (go : ∀ (a pl : Addr) (w : Kp318.Watch) (x : Nat), vs = [.ref a, .int (x : Int)] → LotsAt C H a pl (some w) → (need = true → w.plans ≠ []) → DoneC C H a pl (some w) (c x) Q → R) : R := by
  obtain ⟨a, pl, w, x, e, L, n, D⟩ := h
  exact go a pl w x e L n D
theorem sp2.len {C : Addr} {need : Bool} {c : Nat → Nat → Kp318.Call} {vs : List V} {H : Hp} {Q : VK} {E : XK} (h : sp2 C need c vs H Q E) : vs.length = 3 := by
  obtain ⟨a, pl, w, x, y, rfl, _⟩ := h
  rfl
theorem sp2.elim {C : Addr} {need : Bool} {c : Nat → Nat → Kp318.Call} {vs : List V} {H : Hp} {Q : VK} {E : XK} {R : Prop} (h : sp2 C need c vs H Q E)
    (go : ∀ (a pl : Addr) (w : Kp318.Watch) (x y : Nat), vs = [.ref a, .int (x : Int), .int (y : Int)] → LotsAt C H a pl (some w) → (need = true → w.plans ≠ []) → DoneC C H a pl (some w) (c x y) Q → R) : R := by
  obtain ⟨a, pl, w, x, y, e, L, n, D⟩ := h
  exact go a pl w x y e L n D
theorem sp3.len {C : Addr} {need : Bool} {c : Nat → Nat → Nat → Kp318.Call} {vs : List V} {H : Hp} {Q : VK} {E : XK} (h : sp3 C need c vs H Q E) : vs.length = 4 := by
  obtain ⟨a, pl, w, x, y, z, rfl, _⟩ := h
  rfl
theorem sp3.elim {C : Addr} {need : Bool} {c : Nat → Nat → Nat → Kp318.Call} {vs : List V} {H : Hp} {Q : VK} {E : XK} {R : Prop} (h : sp3 C need c vs H Q E)
    (go : ∀ (a pl : Addr) (w : Kp318.Watch) (x y z : Nat), vs = [.ref a, .int (x : Int), .int (y : Int), .int (z : Int)] → LotsAt C H a pl (some w) → (need = true → w.plans ≠ []) → DoneC C H a pl (some w) (c x y z) Q → R) : R := by
  obtain ⟨a, pl, w, x, y, z, e, L, n, D⟩ := h
  exact go a pl w x y z e L n D
noncomputable def spBegin (C : Addr) : Sp := fun vs H Q _ => ∃ (a pl : Addr) (st : Kp318.State) (x y z : Nat), vs = [.ref a, .int (x : Int), .int (y : Int), .int (z : Int)] ∧ LotsAt C H a pl st ∧ DoneC C H a pl st (.begin_ x y z) Q
structure LTxt (K : PySem.W.Frag) (C : Addr) : Prop where
  cl : Cls K C
  nG : NoAttr K C "begun"
  nD : NoAttr K C "days"
  nM : NoAttr K C "misdeeds"
  nF : NoAttr K C "fine"
  nP : NoAttr K C "plans"
noncomputable def IsC (mg : Str → Option Value) (x : Str) (i : Int) : Prop := ∃ t, mg x = some (.int i t)
theorem pe_const {X : Cx} {x : Str} {i : Int} {pos : Pos} (hg : Gl X x) (h : IsC X.mg x i) (hd : (x == ("__debug__" : Str)) = false := by decide) : PE X (.Name x pos) (tC (.int i)) := by
  obtain ⟨t, h⟩ := h
  exact pe_glob hg h ⟨t, rfl⟩ hd
/-! ### sums of weights -/
theorem total_le : ∀ {ps : List Kp318.Plan}, (∀ p ∈ ps, p.weight ≤ 1000000) → Kp318.total ps ≤ ps.length * 1000000
  | [], _ => by rw [Mth.total_nil]; omega
  | p :: ps, h => by
    rw [Mth.total_cons, List.length_cons]
    have := total_le (ps := ps) fun q hq => h q (List.mem_cons_of_mem _ hq)
    have := h p (List.mem_cons_self ..)
    omega
theorem total_pos {ps : List Kp318.Plan} (hp : ps ≠ []) (h : ∀ p ∈ ps, 0 < p.weight) : 0 < Kp318.total ps := by
  cases ps with
  | nil => exact absurd rfl hp
  | cons p ps =>
    rw [Mth.total_cons]
    have := h p (List.mem_cons_self ..)
    omega
section
variable {P : Program} {w : World} {K : PySem.W.Frag} {mg : Str → Option Value} {base : Heap} {f : Addr} {fd : FuncData}
/-! ### the tests of numbers -/
noncomputable def spMis : Sp := fun vs H Q _ => ∃ k : Nat, vs = [.int (k : Int)] ∧ Q (.bl (decide (k ≤ 6))) H
noncomputable def spFine : Sp := fun vs H Q _ => ∃ k : Nat, vs = [.int (k : Int)] ∧ Q (.bl (Kp318.okB k)) H
noncomputable def spWt : Sp := fun vs H Q _ => ∃ k : Nat, vs = [.int (k : Int)] ∧ Q (.bl (Kp318.okW k)) H
theorem scMis : FnScope ["number"] ["number"] (defScope (top 29)) := ⟨rfl, rfl, rfl, by decide +kernel, rfl, by decide +kernel, by decide +kernel⟩
theorem ok_mis (F : Fun K "is_misdeeds" "is_misdeeds" (top 29) f fd) (c : IsC mg "MOST_MISDEEDS" 6) : FnOk P w K mg base CX0 1 f fd ["number"] spMis := by
  refine F.ok scMis (fun vs H Q E h => ?_) (fun cdv A outer s0 H vs Q E hr h => ?_)
  · obtain ⟨k, rfl, _⟩ := h
    rfl
  · obtain ⟨k, rfl, q⟩ := h
    refine ⟨_, pss_one (ps_ret (pe_cmpR op_le (pv 0) (pe_const rfl c) (nomark _))), ?_⟩
    refine ⟨_, rfl, _, _, rfl, rfl, ?_⟩
    have e : decide ((k : Int) ≤ 6) = decide (k ≤ 6) := decide_eq_decide.mpr (by omega)
    have z : Q (.bl (decide ((k : Int) ≤ 6))) H := by rw [e]; exact q
    exact z
theorem scFine : FnScope ["number"] ["number"] (defScope (top 30)) := ⟨rfl, rfl, rfl, by decide +kernel, rfl, by decide +kernel, by decide +kernel⟩
theorem ok_fine (F : Fun K "is_fine" "is_fine" (top 30) f fd) (c : IsC mg "MOST_FINE" 9) : FnOk P w K mg base CX0 1 f fd ["number"] spFine := by
  refine F.ok scFine (fun vs H Q E h => ?_) (fun cdv A outer s0 H vs Q E hr h => ?_)
  · obtain ⟨k, rfl, _⟩ := h
    rfl
  · obtain ⟨k, rfl, q⟩ := h
    refine ⟨_, pss_one (ps_ret (pe_chain op_le op_le pe_int (pv 0) (pe_const rfl c))), ?_⟩
    refine ⟨_, rfl, _, _, rfl, rfl, _, rfl, ?_⟩
    unfold Kp318.okB at q
    refine ite2 (fun c => ?_) (fun c => ?_)
    · have c' : (1 : Int) ≤ (k : Int) := of_decide_eq_true c
      refine ⟨_, _, rfl, rfl, ?_⟩
      rw [decide_eq_true (show 1 ≤ k by omega), Bool.true_and] at q
      have e : decide ((k : Int) ≤ 9) = decide (k ≤ 9) := decide_eq_decide.mpr (by omega)
      have z : Q (.bl (decide ((k : Int) ≤ 9))) H := by rw [e]; exact q
      exact z
    · have c' : ¬ (1 : Int) ≤ (k : Int) := of_decide_eq_false (Bool.eq_false_iff.mpr c)
      rw [decide_eq_false (show ¬ 1 ≤ k by omega), Bool.false_and] at q
      exact q
theorem scWt : FnScope ["number"] ["number"] (defScope (top 31)) := ⟨rfl, rfl, rfl, by decide +kernel, rfl, by decide +kernel, by decide +kernel⟩
theorem ok_wt (F : Fun K "is_weight" "is_weight" (top 31) f fd) (c : IsC mg "MOST_WEIGHT" 1000) : FnOk P w K mg base CX0 1 f fd ["number"] spWt := by
  refine F.ok scWt (fun vs H Q E h => ?_) (fun cdv A outer s0 H vs Q E hr h => ?_)
  · obtain ⟨k, rfl, _⟩ := h
    rfl
  · obtain ⟨k, rfl, q⟩ := h
    refine ⟨_, pss_one (ps_ret (pe_chain op_le op_le pe_int (pv 0) (pe_const rfl c))), ?_⟩
    refine ⟨_, rfl, _, _, rfl, rfl, _, rfl, ?_⟩
    unfold Kp318.okW at q
    refine ite2 (fun c => ?_) (fun c => ?_)
    · have c' : (1 : Int) ≤ (k : Int) := of_decide_eq_true c
      refine ⟨_, _, rfl, rfl, ?_⟩
      rw [decide_eq_true (show 1 ≤ k by omega), Bool.true_and] at q
      have e : decide ((k : Int) ≤ 1000) = decide (k ≤ 1000) := decide_eq_decide.mpr (by omega)
      have z : Q (.bl (decide ((k : Int) ≤ 1000))) H := by rw [e]; exact q
      exact z
    · have c' : ¬ (1 : Int) ≤ (k : Int) := of_decide_eq_false (Bool.eq_false_iff.mpr c)
      rw [decide_eq_false (show ¬ 1 ≤ k by omega), Bool.false_and] at q
      exact q
/-! ### Lots() -/
noncomputable def spLInit (C : Addr) : Sp := fun vs H Q _ => ∃ (p dx : Addr), vs = [.ref p] ∧ H p = some (.ins C dx []) ∧ ∀ (H' : Hp) (pl : Addr), LotsAt C H' p pl none → H pl = none → (∀ a o, H a = some o → a ≠ p → H' a = some o) → Q .non H'
theorem scLI : FnScope ["self"] ["self"] (defScope (inClass (top 28) 0)) := ⟨rfl, rfl, rfl, by decide +kernel, rfl, by decide +kernel, by decide +kernel⟩
theorem ok_lInit {C : Addr} (F : Fun K "__init__" "Lots.__init__" (inClass (top 28) 0) f fd) (T : LTxt K C) : FnOk P w K mg base CX0 1 f fd ["self"] (spLInit C) := by
  refine F.ok scLI (fun vs H Q E h => ?_) (fun cdv A outer s0 H vs Q E hr h => ?_)
  · obtain ⟨p, dx, rfl, _⟩ := h
    rfl
  · obtain ⟨p, dx, rfl, hp, k⟩ := h
    refine ⟨_, pss_cons (ps_fld (pv 0) pe_bl rfl) (pss_cons (ps_fld (pv 0) pe_int rfl) (pss_cons (ps_fld (pv 0) pe_int rfl) (pss_cons (ps_fld (pv 0) pe_int rfl) (pss_one (ps_fld (pv 0) (pe_lst pa_nil) rfl))))), ?_⟩
    refine ⟨_, rfl, p, C, dx, [], rfl, hp, T.cl, T.nG, (by show 0 < 1000; decide), ?_⟩
    refine ⟨_, rfl, p, C, dx, _, rfl, upd_same, T.cl, T.nD, (by show 1 < 1000; decide), ?_⟩
    refine ⟨_, rfl, p, C, dx, _, rfl, upd_same, T.cl, T.nM, (Nat.lt_of_le_of_lt (Nat.le_trans (length_putF _ _ _) (Nat.succ_le_succ (length_putF _ _ _))) (by show 2 < 1000; decide)), ?_⟩
    refine ⟨_, rfl, p, C, dx, _, rfl, upd_same, T.cl, T.nF, (Nat.lt_of_le_of_lt (Nat.le_trans (length_putF _ _ _) (Nat.succ_le_succ (Nat.le_trans (length_putF _ _ _) (Nat.succ_le_succ (length_putF _ _ _))))) (by show 3 < 1000; decide)), ?_⟩
    refine ⟨(by show 0 ≤ sizeLine; decide), fun pl hpl => ?_⟩
    have np : p ≠ pl := ne_of_none upd_same hpl
    refine ⟨_, rfl, p, C, dx, _, rfl, (by rw [upd_ne np]; exact upd_same), T.cl, T.nP, (Nat.lt_of_le_of_lt (Nat.le_trans (length_putF _ _ _) (Nat.succ_le_succ (Nat.le_trans (length_putF _ _ _) (Nat.succ_le_succ (Nat.le_trans (length_putF _ _ _) (Nat.succ_le_succ (length_putF _ _ _))))))) (by show 4 < 1000; decide)), ?_⟩
    have hpl0 : H pl = none := by
      have z := hpl
      rw [upd_ne (fun e => np e.symm), upd_ne (fun e => np e.symm), upd_ne (fun e => np e.symm), upd_ne (fun e => np e.symm)] at z
      exact z
    refine k _ pl ⟨⟨dx, ?_⟩, ⟨[], ?_, .nil⟩, trivial⟩ hpl0 fun a o e ha => ?_
    · rw [upd_same, lf_make]
      rfl
    · rw [upd_ne (fun e => np e.symm), upd_same]
      rfl
    · rw [upd_ne ha, upd_ne (ne_of_none e hpl0), upd_ne ha, upd_ne ha, upd_ne ha, upd_ne ha]
      exact e
end
end Pl

set_option Elab.async false
set_option linter.all false
set_option maxRecDepth 100000
set_option maxHeartbeats 2000000
namespace Pl
open PySem PySem.Spec PyProof.Rows L2
section
variable {P : Program} {w : World} {K : PySem.W.Frag} {mg : Str → Option Value} {base : Heap} {f : Addr} {fd : FuncData}
theorem lf_len (g : Bool) (n k b : Int) (pl : Addr) : (lf g n k b pl).length < 1000 := by
  show 5 < 1000
  decide
theorem LotsAt.w_ok {C a pl : Addr} {H : Hp} {u : Kp318.Watch} (L : LotsAt C H a pl (some u)) : WOk u := L.ok
theorem LotsAt.w_obj {C a pl : Addr} {H : Hp} {u : Kp318.Watch} (L : LotsAt C H a pl (some u)) : ∃ dx, H a = some (.ins C dx (lf true u.days u.misdeeds u.fine pl)) := L.obj
theorem LotsAt.w_pls {C a pl : Addr} {H : Hp} {u : Kp318.Watch} (L : LotsAt C H a pl (some u)) : PL H pl u.plans := L.pls
theorem len_int {rs : List Addr} {ps : List Kp318.Plan} {H : Hp} (h : Paired (TupAt H) rs ps) : (rs.map V.ref).length = ps.length := by rw [List.length_map, Paired.length h]
/-! ### begin -/
theorem scBegin : FnScope ["lots", "days", "misdeeds", "fine"] ["lots", "days", "misdeeds", "fine"] (defScope (top 32)) := ⟨rfl, rfl, rfl, by decide +kernel, rfl, by decide +kernel, by decide +kernel⟩
theorem ok_begin {C fM fF : Addr} {fdM fdF : FuncData} (F : Fun K "begin" "begin" (top 32) f fd) (T : LTxt K C) (c6 : IsC mg "MOST_DAYS" 6) (cR : IsC mg "OUT_OF_RANGE" (-22)) (M : Cal P w K mg base 1 "is_misdeeds" ["number"] spMis fM fdM)
    (Fi : Cal P w K mg base 1 "is_fine" ["number"] spFine fF fdF) : FnOk P w K mg base CX0 2 f fd ["lots", "days", "misdeeds", "fine"] (spBegin C) := by
  refine F.ok scBegin (fun vs H Q E h => ?_) (fun cdv A outer s0 H vs Q E hr h => ?_)
  · obtain ⟨a, pl, st, n, k, b, rfl, _⟩ := h
    rfl
  · obtain ⟨a, pl, st, n, k, b, rfl, L, D⟩ := h
    have bad : (n = 0 ∨ 6 < n ∨ 6 < k ∨ Kp318.okB b = false) → 1 ≤ sizeLine ∧ ∀ r, H r = none → Q (.ref r) (upd H r (.lst [.int (-22)])) := fun c => by
      have e : Kp318.step st (.begin_ n k b) = (st, Kp318.say (-22)) := by
        show (if n = 0 ∨ 6 < n ∨ 6 < k ∨ Kp318.okB b = false then _ else _) = _
        rw [if_pos c]
      exact ⟨by decide, fun r hr' => (D.as e).one L (Same.refl H) hr'⟩
    refine ⟨_, pss_cons (ps_if (PW.pt (pw_or (pt_not (pt_chain op_le op_le pe_int (pv 1) (pe_const rfl c6))) (pw_or (pt_not (pt_val (pe_call M.ok hr rfl M.mg M.kp M.bd .nil pass0 (pa_cons (pv 2) pa_nil)))) (pw_or1 (pt_not (pt_val (pe_call Fi.ok hr rfl Fi.mg Fi.kp Fi.bd .nil pass0 (pa_cons (pv 3) pa_nil))))))))
        (pss_one (ps_ret (pe_lst (pa_cons (pe_const rfl cR) pa_nil)))) pss_nil)
      (pss_cons (ps_fld (pv 0) pe_bl rfl) (pss_cons (ps_fld (pv 0) (pv 1) rfl) (pss_cons (ps_fld (pv 0) (pv 2) rfl) (pss_cons (ps_fld (pv 0) (pv 3) rfl) (pss_cons (ps_fld (pv 0) (pe_lst pa_nil) rfl) (pss_one (ps_ret (pe_lst (pa_cons pe_int pa_nil))))))))), ?_⟩
    refine ⟨_, rfl, _, _, rfl, rfl, _, rfl, ?_⟩
    refine ite2 (fun c1 => ?_) (fun c1 => ?_)
    · have c1' : (1 : Int) ≤ (n : Int) := of_decide_eq_true c1
      refine ⟨_, _, rfl, rfl, _, rfl, ?_⟩
      refine ite2 (fun c2 => iteT ?_) (fun c2 => ?_)
      · have c2' : decide ((n : Int) ≤ 6) = false := (Bool.not_eq_true' _).mp c2
        have c3 : ¬ (n : Int) ≤ 6 := of_decide_eq_false c2'
        exact bad (by omega)
      · have c2' : ¬ (!decide ((n : Int) ≤ 6)) = true := c2
        have c3 : (n : Int) ≤ 6 := by
          have z : decide ((n : Int) ≤ 6) = true := by
            cases h : decide ((n : Int) ≤ 6)
            · rw [h] at c2'; exact absurd rfl c2'
            · rfl
          exact of_decide_eq_true z
        refine ⟨_, rfl, k, rfl, _, rfl, ?_⟩
        refine ite2 (fun c4 => iteT ?_) (fun c4 => ?_)
        · have c4' : decide (k ≤ 6) = false := (Bool.not_eq_true' _).mp c4
          have c5 : ¬ k ≤ 6 := of_decide_eq_false c4'
          exact bad (by omega)
        · have c4' : decide (k ≤ 6) = true := by
            have c4' : ¬ (!decide (k ≤ 6)) = true := c4
            cases h : decide (k ≤ 6)
            · rw [h] at c4'; exact absurd rfl c4'
            · rfl
          have c5 : k ≤ 6 := of_decide_eq_true c4'
          refine ⟨_, rfl, b, rfl, _, rfl, ?_⟩
          refine ite2 (fun c6 => ?_) (fun c6 => ?_)
          · have c6' : Kp318.okB b = false := (Bool.not_eq_true' _).mp c6
            exact bad (by right; right; right; exact c6')
          · have c7 : Kp318.okB b = true := by
              have c6' : ¬ (!Kp318.okB b) = true := c6
              cases h : Kp318.okB b
              · rw [h] at c6'; exact absurd rfl c6'
              · rfl
            have e : Kp318.step st (.begin_ n k b) = (some ⟨n, k, b, []⟩, Kp318.say 0) := by
              show (if n = 0 ∨ 6 < n ∨ 6 < k ∨ Kp318.okB b = false then _ else _) = _
              rw [if_neg (by rw [c7]; simp; omega)]
            have D' := D.as e
            obtain ⟨dx, ho⟩ := L.obj
            obtain ⟨g0, n0, k0, b0, el⟩ : ∃ g0 n0 k0 b0, lfS st pl = lf g0 n0 k0 b0 pl := by cases st <;> exact ⟨_, _, _, _, rfl⟩
            rw [el] at ho
            refine ⟨_, rfl, a, C, dx, _, rfl, ho, T.cl, T.nG, lf_len _ _ _ _ _, ?_⟩
            refine ⟨_, rfl, _, rfl, a, C, dx, lf true n0 k0 b0 pl, rfl, (by rw [upd_same, lf_pBegun]), T.cl, T.nD, lf_len _ _ _ _ _, ?_⟩
            refine ⟨_, rfl, _, rfl, a, C, dx, lf true n k0 b0 pl, rfl, (by rw [upd_same, lf_pDays]), T.cl, T.nM, lf_len _ _ _ _ _, ?_⟩
            refine ⟨_, rfl, _, rfl, a, C, dx, lf true n k b0 pl, rfl, (by rw [upd_same, lf_pMisdeeds]), T.cl, T.nF, lf_len _ _ _ _ _, ?_⟩
            refine ⟨(by show 0 ≤ sizeLine; decide), fun pl' hpl' => ?_⟩
            have np : a ≠ pl' := ne_of_none upd_same hpl'
            have np' : pl' ≠ a := fun e => np e.symm
            refine ⟨_, rfl, a, C, dx, lf true n k b pl, rfl, (by rw [upd_ne np, upd_same, lf_pFine]), T.cl, T.nP, lf_len _ _ _ _ _, ?_⟩
            refine ⟨(by show 1 ≤ sizeLine; decide), fun r hr' => ?_⟩
            have h0 : H pl' = none := by
              have z := hpl'
              rw [upd_ne np', upd_ne np', upd_ne np', upd_ne np'] at z
              exact z
            have nra : r ≠ a := fun e => by rw [e, upd_same] at hr'; cases hr'
            have nrp : r ≠ pl' := fun e => by rw [e, upd_ne np', upd_same] at hr'; cases hr'
            have hr0 : H r = none := by
              have z := hr'
              rw [upd_ne nra, upd_ne nrp, upd_ne nra, upd_ne nra, upd_ne nra, upd_ne nra] at z
              exact z
            refine D' _ r pl' ⟨⟨dx, ?_⟩, ⟨[], ?_, .nil⟩, ?_⟩ (.inr h0) hr0 upd_same fun x o e hx hy => ?_
            · rw [upd_ne (fun e => nra e.symm), upd_same, lf_pPlans]
              rfl
            · rw [upd_ne (fun e => nrp e.symm), upd_ne np', upd_same]
              rfl
            · unfold Kp318.okB at c7
              rw [Bool.and_eq_true] at c7
              have q1 := of_decide_eq_true c7.1
              have q2 := of_decide_eq_true c7.2
              exact ⟨by show 1 ≤ n; omega, by show n ≤ 6; omega, c5, q1, q2, by show 0 ≤ 10; omega, fun p hp => nomatch hp⟩
            · rw [upd_ne (ne_of_none e hr0), upd_ne hx, upd_ne (ne_of_none e h0), upd_ne hx, upd_ne hx, upd_ne hx, upd_ne hx]
              exact e
    · refine ⟨_, rfl, iteT (iteT ?_)⟩
      have c1' : ¬ (1 : Int) ≤ (n : Int) := of_decide_eq_false (Bool.eq_false_iff.mpr c1)
      exact bad (by omega)
end
end Pl

set_option Elab.async false
set_option linter.all false
set_option maxRecDepth 100000
set_option maxHeartbeats 2000000
namespace Pl
open PySem PySem.Spec PyProof.Rows L2
theorem not_f {b : Bool} (h : ¬ (!b) = true) : b = true := by
  cases b
  · exact absurd rfl h
  · rfl
theorem not_t {b : Bool} (h : (!b) = true) : b = false := (Bool.not_eq_true' _).mp h
theorem Done.keep {C a pl r pl' : Addr} {H H' : Hp} {st : Kp318.State} {ans : List Int} {Q : VK} (D : Done C H a pl st ans Q) (L : LotsAt C H' a pl' st) (hp : pl' = pl ∨ H pl' = none) (hr : H r = none) (hl : H' r = some (.lst (ans.map V.int)))
    (kp : ∀ b o, H b = some o → b ≠ a → b ≠ pl → H' b = some o) : Q (.ref r) H' := D H' r pl' L hp hr hl kp
theorem Paired.erase {α β : Type} {G : α → β → Prop} : ∀ {l : List α} {m : List β} (i : Nat), Paired G l m → Paired G (l.eraseIdx i) (m.eraseIdx i)
  | _, _, _, .nil => .nil
  | _, _, 0, .cons _ t => t
  | _, _, i + 1, .cons h t => .cons h (Paired.erase i t)
theorem Paired.put {α β : Type} {G : α → β → Prop} {x : α} {y : β} (r : G x y) : ∀ {l : List α} {m : List β} (i : Nat), Paired G l m → Paired G (l.set i x) (m.set i y)
  | _, _, _, .nil => .nil
  | _, _, 0, .cons _ t => .cons r t
  | _, _, i + 1, .cons h t => .cons h (Paired.put r i t)
theorem paired_back {α β : Type} {G : α → β → Prop} : ∀ {l : List α} {m : List β}, Paired G l m → ∀ {i : Nat} {y : β}, m[i]? = some y → ∃ x, l[i]? = some x ∧ G x y
  | _, _, .nil, i, y, h => by simp at h
  | _, _, .cons q t, 0, y, h => by
    have e := Option.some.inj h
    subst e
    exact ⟨_, rfl, q⟩
  | _, _, .cons q t, i + 1, y, h => paired_back t (i := i) h
section
variable {P : Program} {w : World} {K : PySem.W.Frag} {mg : Str → Option Value} {base : Heap} {f : Addr} {fd : FuncData}
/-- tuples stay where a list, an instance or a new address is written -/
theorem paired_upd {H : Hp} {x : Addr} {o u : HO} {rs : List Addr} {ps : List Kp318.Plan} (h : Paired (TupAt H) rs ps) (hx : H x = some u) (nt : ∀ l, u ≠ .tup l) : Paired (TupAt (upd H x o)) rs ps :=
  Paired.mapP h fun r p t => by
    show upd H x o r = _
    rw [upd_ne (ne_of t hx (fun e => nt _ e.symm))]
    exact t
/-! ### plan -/
theorem scAdd : FnScope ["lots", "days_of_set", "weight"] ["lots", "days_of_set", "weight"] (defScope (top 33)) := ⟨rfl, rfl, rfl, by decide +kernel, rfl, by decide +kernel, by decide +kernel⟩
theorem ok_add {C fF fW : Addr} {fdF fdW : FuncData} (F : Fun K "add_plan" "add_plan" (top 33) f fd) (T : LTxt K C) (ml : mg "len" = none) (c10 : IsC mg "MOST_PLANS" 10) (cR : IsC mg "OUT_OF_RANGE" (-22)) (cM : IsC mg "TOO_MANY_PLANS" (-28))
    (Ft : Cal P w K mg base 1 "fits" ["days_of_set", "days"] spFits fF fdF) (W : Cal P w K mg base 1 "is_weight" ["number"] spWt fW fdW) : FnOk P w K mg base CX0 2 f fd ["lots", "days_of_set", "weight"] (sp2 C false .plan) := by
  refine F.ok scAdd (fun vs H Q E h => ?_) (fun cdv A outer s0 H vs Q E hr h => ?_)
  · exact h.len
  · refine h.elim fun a pl u x y ev L _ D => ?_
    subst ev
    obtain ⟨dx, ho⟩ := L.w_obj
    obtain ⟨rs, hl, pr⟩ := L.w_pls
    have wk := L.w_ok
    have nap : pl ≠ a := L.ne
    have elen := len_int pr
    have bad : (2 ^ u.days ≤ x ∨ Kp318.okW y = false) → 1 ≤ sizeLine ∧ ∀ r, H r = none → Q (.ref r) (upd H r (.lst [.int (-22)])) := fun c => by
      have e : Kp318.step (some u) (.plan x y) = (some u, Kp318.say (-22)) := by
        show (if 2 ^ u.days ≤ x ∨ Kp318.okW y = false then _ else _) = _
        rw [if_pos c]
      exact ⟨by decide, fun r hr' => (D.as e).one L (Same.refl H) hr'⟩
    refine ⟨_, pss_cons (ps_if (PW.pt (pw_or (pt_not (pt_val (pe_call Ft.ok hr rfl Ft.mg Ft.kp Ft.bd .nil pass0 (pa_cons (pv 1) (pa_cons (pe_fld (pv 0) rfl) pa_nil))))) (pw_or1 (pt_not (pt_val (pe_call W.ok hr rfl W.mg W.kp W.bd .nil pass0 (pa_cons (pv 2) pa_nil)))))))
        (pss_one (ps_ret (pe_lst (pa_cons (pe_const rfl cR) pa_nil)))) pss_nil)
      (pss_cons (ps_if (pt_cmpR op_eq (pe_callB call_len_seq rfl ml PySem.boot_len (pa_cons (pe_fld (pv 0) rfl) pa_nil)) (pe_const rfl c10) (nomark _)) (pss_one (ps_ret (pe_lst (pa_cons (pe_const rfl cM) pa_nil)))) pss_nil)
      (pss_cons (ps_expr (pe_bm PySem.F.plainAttrs_list PySem.F.slot_list_append PySem.F.type_list_append mt_append (pe_fld (pv 0) rfl) (pa_cons (pe_tup (pa_cons (pv 1) (pa_cons (pv 2) pa_nil))) pa_nil)))
      (pss_one (ps_ret (pe_lst (pa_cons (pe_op op_sub (pe_callB call_len_seq rfl ml PySem.boot_len (pa_cons (pe_fld (pv 0) rfl) pa_nil)) pe_int) pa_nil)))))), ?_⟩
    refine seq_open fun U hU => ?_
    refine ⟨_, rfl, r_fld rfl (ho) T.cl T.nD (lf_days _ _ _ _ _) ⟨x, u.days, rfl, _, rfl, ?_⟩⟩
    refine ite2 (fun c1 => iteT ?_) (fun c1 => ?_)
    · have c2 := of_decide_eq_false (not_t c1)
      exact bad (.inl (by omega))
    have c2 : x < 2 ^ u.days := of_decide_eq_true (not_f c1)
    refine ⟨_, rfl, y, rfl, _, rfl, ?_⟩
    refine ite2 (fun c3 => ?_) (fun c3 => ?_)
    · exact bad (.inr (not_t c3))
    have c4 : Kp318.okW y = true := not_f c3
    subst hU
    refine seq_openN fun U hU => ?_
    refine r_fld rfl (ho) T.cl T.nP (lf_plans _ _ _ _ _) ⟨pl, _, rfl, .inl (SqL.of hl), rfl, _, rfl, ?_⟩
    refine ite2 (fun c5 => ?_) (fun c5 => ?_)
    · have c5' : V.int ((rs.map V.ref).length : Int) = V.int 10 := of_decide_eq_true c5
      rw [elen] at c5'
      have c6 : u.plans.length = 10 := by injection c5' with z; omega
      have e : Kp318.step (some u) (.plan x y) = (some u, Kp318.say (-28)) := by
        show (if 2 ^ u.days ≤ x ∨ Kp318.okW y = false then _ else if Kp318.PLANS ≤ u.plans.length then _ else _) = _
        rw [if_neg (by rw [c4]; simp; omega), if_pos (by show 10 ≤ _; omega)]
      exact ⟨by decide, fun r hr' => (D.as e).one L (Same.refl H) hr'⟩
    · have c5' : ¬ V.int ((rs.map V.ref).length : Int) = V.int 10 := of_decide_eq_false (Bool.eq_false_iff.mpr c5)
      rw [elen] at c5'
      have c6 : ¬ u.plans.length = 10 := fun z => c5' (by rw [z]; rfl)
      have c7 : u.plans.length < 10 := by have := wk.len; omega
      have e : Kp318.step (some u) (.plan x y) = (some { u with plans := u.plans ++ [⟨x, y⟩] }, Kp318.say (u.plans.length : Nat)) := by
        show (if 2 ^ u.days ≤ x ∨ Kp318.okW y = false then _ else if Kp318.PLANS ≤ u.plans.length then _ else _) = _
        rw [if_neg (by rw [c4]; simp; omega), if_neg (by show ¬ 10 ≤ _; omega)]
      subst hU
      refine seq_openN fun U hU => ?_
      refine ⟨_, rfl, a, C, dx, _, _, rfl, ho, T.cl, T.nP, lf_plans _ _ _ _ _, .inl ⟨rfl, _, SqL.of hl⟩, _, rfl, _, rfl, (by show 2 ≤ sizeLine; decide), fun p hp => ?_⟩
      have npl : pl ≠ p := ne_of_none hl hp
      have npa : a ≠ p := ne_of_none ho hp
      refine ⟨pl, _, _, rfl, rfl, (by rw [upd_ne npl]; exact hl), (by rw [elen]; exact small1000 (by omega)), ?_⟩
      subst hU
      refine r_fld rfl ((by rw [upd_ne (fun z => nap z.symm), upd_ne npa]; exact ho)) T.cl T.nP (lf_plans _ _ _ _ _) ⟨pl, _, rfl, .inl (SqL.of upd_same), _, _, rfl, rfl, (by show 1 ≤ sizeLine; decide), fun r hr' => ?_⟩
      have nr1 : r ≠ pl := fun z => by rw [z, upd_same] at hr'; cases hr'
      have nr2 : r ≠ p := fun z => by rw [upd_ne nr1, z, upd_same] at hr'; cases hr'
      have hr0 : H r = none := by
        have z := hr'
        rw [upd_ne nr1, upd_ne nr2] at z
        exact z
      have nr3 : a ≠ r := ne_of_none ho hr0
      refine (D.as e).keep (pl' := pl) ⟨⟨dx, ?_⟩, ⟨rs ++ [p], ?_, ?_⟩, ?_⟩ (.inl rfl) hr0 ?_ fun b o eb h1 h2 => ?_
      · rw [upd_ne nr3, upd_ne (fun z => nap z.symm), upd_ne npa]
        exact ho
      · rw [upd_ne (fun z => nr1 z.symm), upd_same, List.map_append]
        rfl
      · have s1 : Same H (upd H p (.tup [.int (x : Int), .int (y : Int)])) := same_new hp _
        have pr1 := pairedSame s1 pr
        have t1 : TupAt (upd H p (.tup [.int (x : Int), .int (y : Int)])) p ⟨x, y⟩ := upd_same
        have pr2 := Paired.snoc pr1 t1
        exact pairedSame (same_new hr' _) (paired_upd pr2 (s1 _ _ hl) (fun l z => by cases z))
      · have okw := c4
        unfold Kp318.okW at okw
        rw [Bool.and_eq_true] at okw
        have q1 := of_decide_eq_true okw.1
        have q2 := of_decide_eq_true okw.2
        refine ⟨wk.d1, wk.d6, wk.k6, wk.b1, wk.b9, ?_, fun p' hp' => ?_⟩
        · show (u.plans ++ [_]).length ≤ 10
          rw [List.length_append]
          show u.plans.length + 1 ≤ 10
          omega
        · rcases List.mem_append.mp hp' with z | z
          · exact wk.pls p' z
          · have z' := List.mem_singleton.mp z
            subst z'
            exact ⟨c2, q1, by show y ≤ 1000000; omega⟩
      · rw [upd_same]
        have e1 : (((rs.map V.ref) ++ [V.ref p]).length : Int) - 1 = ((u.plans.length : Nat) : Int) := by
          rw [List.length_append, elen]
          show ((u.plans.length + 1 : Nat) : Int) - 1 = _
          omega
        show some (HO.lst [V.int ((((rs.map V.ref) ++ [V.ref p]).length : Int) - 1)]) = _
        rw [e1]
        rfl
      · rw [upd_ne (ne_of_none eb hr0), upd_ne h2, upd_ne (ne_of_none eb hp)]
        exact eb
/-! ### misdeeds, fine -/
theorem scCM : FnScope ["lots", "misdeeds", "before"] ["lots", "misdeeds"] (defScope (top 36)) := ⟨rfl, rfl, rfl, by decide +kernel, rfl, by decide +kernel, by decide +kernel⟩
theorem ok_cm {C fM : Addr} {fdM : FuncData} (F : Fun K "change_misdeeds" "change_misdeeds" (top 36) f fd) (T : LTxt K C) (cR : IsC mg "OUT_OF_RANGE" (-22)) (M : Cal P w K mg base 1 "is_misdeeds" ["number"] spMis fM fdM) :
    FnOk P w K mg base CX0 2 f fd ["lots", "misdeeds"] (sp1 C false .misdeeds) := by
  refine F.ok scCM (fun vs H Q E h => ?_) (fun cdv A outer s0 H vs Q E hr h => ?_)
  · exact h.len
  · refine h.elim fun a pl u x ev L _ D => ?_
    subst ev
    obtain ⟨dx, ho⟩ := L.w_obj
    have hP := L.w_pls
    have wk := L.w_ok
    refine ⟨_, pss_cons (ps_if (pt_not (pt_val (pe_call M.ok hr rfl M.mg M.kp M.bd .nil pass0 (pa_cons (pv 1) pa_nil)))) (pss_one (ps_ret (pe_lst (pa_cons (pe_const rfl cR) pa_nil)))) pss_nil)
      (pss_cons (ps_set (i := 2) scCM.nd rfl (Or.inl rfl) (pe_fld (pv 0) rfl)) (pss_cons (ps_fld (pv 0) (pv 1) rfl) (pss_one (ps_ret (pe_lst (pa_cons (pv 2) pa_nil)))))), ?_⟩
    refine seq_open fun U hU => ?_
    refine ⟨_, rfl, x, rfl, _, rfl, ?_⟩
    refine ite2 (fun c1 => ?_) (fun c1 => ?_)
    · have c2 := of_decide_eq_false (not_t c1)
      have e : Kp318.step (some u) (.misdeeds x) = (some u, Kp318.say (-22)) := by
        show (if 6 < x then _ else _) = _
        rw [if_pos (by omega)]
      exact ⟨by decide, fun r hr' => (D.as e).one L (Same.refl H) hr'⟩
    · have c2 := of_decide_eq_true (not_f c1)
      have e : Kp318.step (some u) (.misdeeds x) = (some { u with misdeeds := x }, Kp318.say (u.misdeeds : Nat)) := by
        show (if 6 < x then _ else _) = _
        rw [if_neg (by omega)]
      subst hU
      refine seq_openN fun U hU => ?_
      refine r_fld rfl (ho) T.cl T.nM (lf_misdeeds _ _ _ _ _) ?_
      subst hU
      refine seq_openN fun U hU => ?_
      refine ⟨_, rfl, _, rfl, a, C, dx, _, rfl, ho, T.cl, T.nM, lf_len _ _ _ _ _, ?_⟩
      subst hU
      refine ⟨_, rfl, (by show 1 ≤ sizeLine; decide), fun r hr' => ?_⟩
      have nra : r ≠ a := fun z => by rw [z, upd_same] at hr'; cases hr'
      have hr0 : H r = none := by
        have z := hr'
        rw [upd_ne nra] at z
        exact z
      have nap : pl ≠ a := L.ne
      obtain ⟨rs, hl, pr⟩ := hP
      refine (D.as e).keep (pl' := pl) ⟨⟨dx, ?_⟩, ⟨rs, ?_, ?_⟩, ?_⟩ (.inl rfl) hr0 upd_same fun b o eb h1 h2 => ?_
      · rw [upd_ne (fun z => nra z.symm), upd_same, lf_pMisdeeds]
        rfl
      · rw [upd_ne (ne_of_none hl hr0), upd_ne nap]
        exact hl
      · exact pairedSame (same_new hr' _) (paired_upd pr ho (fun l z => by cases z))
      · exact ⟨wk.d1, wk.d6, c2, wk.b1, wk.b9, wk.len, wk.pls⟩
      · rw [upd_ne (ne_of_none eb hr0), upd_ne h1]
        exact eb
theorem scCF : FnScope ["lots", "fine", "before"] ["lots", "fine"] (defScope (top 37)) := ⟨rfl, rfl, rfl, by decide +kernel, rfl, by decide +kernel, by decide +kernel⟩
theorem ok_cf {C fM : Addr} {fdM : FuncData} (F : Fun K "change_fine" "change_fine" (top 37) f fd) (T : LTxt K C) (cR : IsC mg "OUT_OF_RANGE" (-22)) (M : Cal P w K mg base 1 "is_fine" ["number"] spFine fM fdM) :
    FnOk P w K mg base CX0 2 f fd ["lots", "fine"] (sp1 C false .fine) := by
  refine F.ok scCF (fun vs H Q E h => ?_) (fun cdv A outer s0 H vs Q E hr h => ?_)
  · exact h.len
  · refine h.elim fun a pl u x ev L _ D => ?_
    subst ev
    obtain ⟨dx, ho⟩ := L.w_obj
    have hP := L.w_pls
    have wk := L.w_ok
    refine ⟨_, pss_cons (ps_if (pt_not (pt_val (pe_call M.ok hr rfl M.mg M.kp M.bd .nil pass0 (pa_cons (pv 1) pa_nil)))) (pss_one (ps_ret (pe_lst (pa_cons (pe_const rfl cR) pa_nil)))) pss_nil)
      (pss_cons (ps_set (i := 2) scCF.nd rfl (Or.inl rfl) (pe_fld (pv 0) rfl)) (pss_cons (ps_fld (pv 0) (pv 1) rfl) (pss_one (ps_ret (pe_lst (pa_cons (pv 2) pa_nil)))))), ?_⟩
    refine seq_open fun U hU => ?_
    refine ⟨_, rfl, x, rfl, _, rfl, ?_⟩
    refine ite2 (fun c1 => ?_) (fun c1 => ?_)
    · have c2 := not_t c1
      have e : Kp318.step (some u) (.fine x) = (some u, Kp318.say (-22)) := by
        show (if Kp318.okB x = false then _ else _) = _
        rw [if_pos c2]
      exact ⟨by decide, fun r hr' => (D.as e).one L (Same.refl H) hr'⟩
    · have c2 := not_f c1
      have e : Kp318.step (some u) (.fine x) = (some { u with fine := x }, Kp318.say (u.fine : Nat)) := by
        show (if Kp318.okB x = false then _ else _) = _
        rw [if_neg (by rw [c2]; simp)]
      subst hU
      refine seq_openN fun U hU => ?_
      refine r_fld rfl (ho) T.cl T.nF (lf_fine _ _ _ _ _) ?_
      subst hU
      refine seq_openN fun U hU => ?_
      refine ⟨_, rfl, _, rfl, a, C, dx, _, rfl, ho, T.cl, T.nF, lf_len _ _ _ _ _, ?_⟩
      subst hU
      refine ⟨_, rfl, (by show 1 ≤ sizeLine; decide), fun r hr' => ?_⟩
      have nra : r ≠ a := fun z => by rw [z, upd_same] at hr'; cases hr'
      have hr0 : H r = none := by
        have z := hr'
        rw [upd_ne nra] at z
        exact z
      have nap : pl ≠ a := L.ne
      obtain ⟨rs, hl, pr⟩ := hP
      refine (D.as e).keep (pl' := pl) ⟨⟨dx, ?_⟩, ⟨rs, ?_, ?_⟩, ?_⟩ (.inl rfl) hr0 upd_same fun b o eb h1 h2 => ?_
      · rw [upd_ne (fun z => nra z.symm), upd_same, lf_pFine]
        rfl
      · rw [upd_ne (ne_of_none hl hr0), upd_ne nap]
        exact hl
      · exact pairedSame (same_new hr' _) (paired_upd pr ho (fun l z => by cases z))
      · unfold Kp318.okB at c2
        rw [Bool.and_eq_true] at c2
        exact ⟨wk.d1, wk.d6, wk.k6, of_decide_eq_true c2.1, of_decide_eq_true c2.2, wk.len, wk.pls⟩
      · rw [upd_ne (ne_of_none eb hr0), upd_ne h1]
        exact eb
end
end Pl

set_option Elab.async false
set_option linter.all false
set_option maxRecDepth 100000
set_option maxHeartbeats 2000000
namespace Pl
open PySem PySem.Spec PyProof.Rows L2
theorem erase_map {α β : Type} (g : α → β) : ∀ (l : List α) (i : Nat), (l.map g).eraseIdx i = (l.eraseIdx i).map g
  | [], _ => rfl
  | _ :: _, 0 => rfl
  | a :: l, i + 1 => by
    show g a :: (l.map g).eraseIdx i = g a :: (l.eraseIdx i).map g
    rw [erase_map g l i]
section
variable {P : Program} {w : World} {K : PySem.W.Frag} {mg : Str → Option Value} {base : Heap} {f : Addr} {fd : FuncData}
theorem seq_nat {n i : Nat} (h : i < n) : seqIndex? (i : Int) n = some i := by
  have e : ixN n (i : Int) = some i := by
    unfold ixN
    rw [if_pos (by omega), if_pos (by omega)]
    simp
  exact (ixN_seq e).1
theorem ixN_nat {n i : Nat} (h : i < n) : ixN n (i : Int) = some i := by
  unfold ixN
  rw [if_pos (by omega), if_pos (by omega)]
  simp
/-! ### drop -/
theorem scDrop : FnScope ["lots", "place"] ["lots", "place"] (defScope (top 34)) := ⟨rfl, rfl, rfl, by decide +kernel, rfl, by decide +kernel, by decide +kernel⟩
theorem ok_drop {C : Addr} (F : Fun K "drop_plan" "drop_plan" (top 34) f fd) (T : LTxt K C) (ml : mg "len" = none) (cN : IsC mg "NO_SUCH_PLAN" (-2)) : FnOk P w K mg base CX0 2 f fd ["lots", "place"] (sp1 C false .drop) := by
  refine F.ok scDrop (fun vs H Q E h => ?_) (fun cdv A outer s0 H vs Q E hr h => ?_)
  · exact h.len
  · refine h.elim fun a pl u x ev L _ D => ?_
    subst ev
    obtain ⟨dx, ho⟩ := L.w_obj
    obtain ⟨rs, hl, pr⟩ := L.w_pls
    have wk := L.w_ok
    have nap : pl ≠ a := L.ne
    have elen := len_int pr
    refine ⟨_, pss_cons (ps_if (pt_cmpR op_ge (pv 1) (pe_callB call_len_seq rfl ml PySem.boot_len (pa_cons (pe_fld (pv 0) rfl) pa_nil)) (nomark _)) (pss_one (ps_ret (pe_lst (pa_cons (pe_const rfl cN) pa_nil)))) pss_nil)
      (pss_cons (ps_expr (pe_bm PySem.F.plainAttrs_list PySem.F.slot_list_pop PySem.F.type_list_pop mt_popAt (pe_fld (pv 0) rfl) (pa_cons (pv 1) pa_nil)))
      (pss_one (ps_ret (pe_lst (pa_cons (pe_callB call_len_seq rfl ml PySem.boot_len (pa_cons (pe_fld (pv 0) rfl) pa_nil)) pa_nil))))), ?_⟩
    refine seq_open fun U hU => ?_
    refine ⟨_, rfl, r_fld rfl (ho) T.cl T.nP (lf_plans _ _ _ _ _) ⟨pl, _, rfl, .inl (SqL.of hl), _, _, rfl, rfl, _, rfl, ?_⟩⟩
    refine ite2 (fun c1 => ?_) (fun c1 => ?_)
    · have c2 : ((rs.map V.ref).length : Int) ≤ (x : Int) := of_decide_eq_true c1
      rw [elen] at c2
      have e : Kp318.step (some u) (.drop x) = (some u, Kp318.say (-2)) := by
        show (if decide (x < u.plans.length) = false then _ else _) = _
        rw [if_pos (decide_eq_false (by omega))]
      exact ⟨by decide, fun r hr' => (D.as e).one L (Same.refl H) hr'⟩
    · have c2 : ¬ ((rs.map V.ref).length : Int) ≤ (x : Int) := of_decide_eq_false (Bool.eq_false_iff.mpr c1)
      rw [elen] at c2
      have hx : x < u.plans.length := by omega
      have hx' : x < rs.length := by rw [Paired.length pr]; exact hx
      have e : Kp318.step (some u) (.drop x) = (some { u with plans := u.plans.take x ++ u.plans.drop (x + 1) }, Kp318.say (u.plans.length - 1 : Nat)) := by
        show (if decide (x < u.plans.length) = false then _ else _) = _
        rw [if_neg (by rw [decide_eq_true hx]; simp)]
      have g1 : (rs.map V.ref)[x]? = some (V.ref rs[x]) := by rw [List.getElem?_map, List.getElem?_eq_getElem hx']; rfl
      have wl := wk.len
      subst hU
      refine seq_openN fun U hU => ?_
      refine ⟨_, rfl, a, C, dx, _, _, rfl, ho, T.cl, T.nP, lf_plans _ _ _ _ _, .inl ⟨rfl, _, SqL.of hl⟩, _, rfl, ?_⟩
      refine ⟨pl, _, _, x, _, rfl, rfl, hl, by omega, by omega, seq_nat (by rw [elen]; exact hx), g1, ?_⟩
      subst hU
      refine r_fld rfl ((by rw [upd_ne (fun z => nap z.symm)]; exact ho)) T.cl T.nP (lf_plans _ _ _ _ _) ⟨pl, _, rfl, .inl (SqL.of upd_same), (by show 1 ≤ sizeLine; decide), fun r hr' => ?_⟩
      have nr1 : r ≠ pl := fun z => by rw [z, upd_same] at hr'; cases hr'
      have hr0 : H r = none := by
        have z := hr'
        rw [upd_ne nr1] at z
        exact z
      have nr3 : a ≠ r := ne_of_none ho hr0
      have er : (rs.map V.ref).eraseIdx x = (rs.eraseIdx x).map V.ref := erase_map V.ref rs x
      have ep : u.plans.eraseIdx x = u.plans.take x ++ u.plans.drop (x + 1) := List.eraseIdx_eq_take_drop_succ _ _
      have el2 : (u.plans.eraseIdx x).length = u.plans.length - 1 := List.length_eraseIdx_of_lt hx
      refine (D.as e).keep (pl' := pl) ⟨⟨dx, ?_⟩, ⟨rs.eraseIdx x, ?_, ?_⟩, ?_⟩ (.inl rfl) hr0 ?_ fun b o eb h1 h2 => ?_
      · rw [upd_ne nr3, upd_ne (fun z => nap z.symm)]
        exact ho
      · rw [upd_ne (fun z => nr1 z.symm), upd_same, er]
      · show Paired _ _ (u.plans.take x ++ u.plans.drop (x + 1))
        rw [← ep]
        exact pairedSame (same_new hr' _) (paired_upd (Paired.erase x pr) hl (fun l z => by cases z))
      · refine ⟨wk.d1, wk.d6, wk.k6, wk.b1, wk.b9, ?_, fun p hp => wk.pls p ?_⟩
        · show (u.plans.take x ++ u.plans.drop (x + 1)).length ≤ 10
          rw [← ep, el2]
          omega
        · have hp' : p ∈ u.plans.take x ++ u.plans.drop (x + 1) := hp
          rw [← ep] at hp'
          exact List.mem_of_mem_eraseIdx hp'
      · rw [upd_same]
        have e1 : ((rs.map V.ref).eraseIdx x).length = u.plans.length - 1 := by
          rw [List.length_eraseIdx_of_lt (by rw [elen]; exact hx), elen]
        show some (HO.lst [V.int ((((rs.map V.ref).eraseIdx x).length : Nat) : Int)]) = _
        rw [e1]
        rfl
      · rw [upd_ne (ne_of_none eb hr0), upd_ne h2]
        exact eb
/-! ### weight -/
theorem scCW : FnScope ["lots", "place", "weight", "before"] ["lots", "place", "weight"] (defScope (top 35)) := ⟨rfl, rfl, rfl, by decide +kernel, rfl, by decide +kernel, by decide +kernel⟩
theorem ok_cw {C fW : Addr} {fdW : FuncData} (F : Fun K "change_weight" "change_weight" (top 35) f fd) (T : LTxt K C) (ml : mg "len" = none) (cN : IsC mg "NO_SUCH_PLAN" (-2)) (cR : IsC mg "OUT_OF_RANGE" (-22)) (W : Cal P w K mg base 1 "is_weight" ["number"] spWt fW fdW) :
    FnOk P w K mg base CX0 2 f fd ["lots", "place", "weight"] (sp2 C false .weight) := by
  refine F.ok scCW (fun vs H Q E h => ?_) (fun cdv A outer s0 H vs Q E hr h => ?_)
  · exact h.len
  · refine h.elim fun a pl u x y ev L _ D => ?_
    subst ev
    obtain ⟨dx, ho⟩ := L.w_obj
    obtain ⟨rs, hl, pr⟩ := L.w_pls
    have wk := L.w_ok
    have nap : pl ≠ a := L.ne
    have elen := len_int pr
    refine ⟨_, pss_cons (ps_if (pt_cmpR op_ge (pv 1) (pe_callB call_len_seq rfl ml PySem.boot_len (pa_cons (pe_fld (pv 0) rfl) pa_nil)) (nomark _)) (pss_one (ps_ret (pe_lst (pa_cons (pe_const rfl cN) pa_nil)))) pss_nil)
      (pss_cons (ps_if (pt_not (pt_val (pe_call W.ok hr rfl W.mg W.kp W.bd .nil pass0 (pa_cons (pv 2) pa_nil)))) (pss_one (ps_ret (pe_lst (pa_cons (pe_const rfl cR) pa_nil)))) pss_nil)
      (pss_cons (ps_set (i := 3) scCW.nd rfl (Or.inl rfl) (pe_ix ix_list (pe_fld (pv 0) rfl) (pv 1) (fun _ _ => rfl)))
      (pss_cons (ps_asg (pe_tup (pa_cons (pe_ix ix_tup (pv 3) pe_int (fun _ _ => rfl)) (pa_cons (pv 2) pa_nil))) (pg_sub (pe_fld (pv 0) rfl) (pv 1) set_list))
      (pss_one (ps_ret (pe_lst (pa_cons (pe_ix ix_tup (pv 3) pe_int (fun _ _ => rfl)) pa_nil))))))), ?_⟩
    refine seq_open fun U hU => ?_
    refine ⟨_, rfl, r_fld rfl (ho) T.cl T.nP (lf_plans _ _ _ _ _) ⟨pl, _, rfl, .inl (SqL.of hl), _, _, rfl, rfl, _, rfl, ?_⟩⟩
    refine ite2 (fun c1 => ?_) (fun c1 => ?_)
    · have c2 : ((rs.map V.ref).length : Int) ≤ (x : Int) := of_decide_eq_true c1
      rw [elen] at c2
      have e : Kp318.step (some u) (.weight x y) = (some u, Kp318.say (-2)) := by
        show (if decide (x < u.plans.length) = false then _ else _) = _
        rw [if_pos (decide_eq_false (by omega))]
      exact ⟨by decide, fun r hr' => (D.as e).one L (Same.refl H) hr'⟩
    have c2 : ¬ ((rs.map V.ref).length : Int) ≤ (x : Int) := of_decide_eq_false (Bool.eq_false_iff.mpr c1)
    rw [elen] at c2
    have hx : x < u.plans.length := by omega
    have hx' : x < rs.length := by rw [Paired.length pr]; exact hx
    have no2 : ¬ decide (x < u.plans.length) = false := by rw [decide_eq_true hx]; simp
    subst hU
    refine seq_openN fun U hU => ?_
    refine ⟨_, rfl, y, rfl, _, rfl, ?_⟩
    refine ite2 (fun c3 => ?_) (fun c3 => ?_)
    · have e : Kp318.step (some u) (.weight x y) = (some u, Kp318.say (-22)) := by
        show (if decide (x < u.plans.length) = false then _ else if Kp318.okW y = false then _ else _) = _
        rw [if_neg no2, if_pos (not_t c3)]
      exact ⟨by decide, fun r hr' => (D.as e).one L (Same.refl H) hr'⟩
    have c4 := not_f c3
    have e : Kp318.step (some u) (.weight x y) = (some { u with plans := u.plans.set x { u.plans.getD x ⟨0, 0⟩ with weight := y } }, Kp318.say ((u.plans.getD x ⟨0, 0⟩).weight : Nat)) := by
      show (if decide (x < u.plans.length) = false then _ else if Kp318.okW y = false then _ else _) = _
      rw [if_neg no2, if_neg (by rw [c4]; simp)]
    obtain ⟨p, hp⟩ : ∃ p, u.plans[x]? = some p := ⟨_, List.getElem?_eq_getElem hx⟩
    obtain ⟨q, hq, tq⟩ := paired_back pr hp
    have eD : u.plans.getD x ⟨0, 0⟩ = p := by rw [List.getD_eq_getElem?_getD, hp]; rfl
    rw [eD] at e
    have g1 : (rs.map V.ref)[x]? = some (V.ref q) := by rw [List.getElem?_map, hq]; rfl
    subst hU
    refine seq_openN fun U hU => ?_
    refine ⟨_, rfl, a, C, dx, _, _, rfl, ho, T.cl, T.nP, lf_plans _ _ _ _ _, _, rfl, pl, _, _, _, rfl, rfl, SqL.of hl, atI_nat g1, ?_⟩
    subst hU
    refine seq_openN fun U hU => ?_
    refine ⟨_, rfl, q, _, _, _, rfl, rfl, SqT.of tq, rfl, _, rfl, (by show 2 ≤ sizeLine; decide), fun t ht => ?_⟩
    have npt : pl ≠ t := ne_of_none hl ht
    have nat' : a ≠ t := ne_of_none ho ht
    have s1 : Same H (upd H t (.tup [.int (p.set : Int), .int (y : Int)])) := same_new ht _
    refine r_fld rfl (s1 _ _ ho) T.cl T.nP (lf_plans _ _ _ _ _) ⟨_, rfl, pl, _, _, x, rfl, rfl, s1 _ _ hl, ixN_nat (by rw [elen]; exact hx), ?_⟩
    have nqp : q ≠ pl := ne_of tq hl (by intro z; cases z)
    subst hU
    refine ⟨_, rfl, q, _, _, _, rfl, rfl, SqT.of (by rw [upd_ne nqp]; exact s1 _ _ tq), rfl, (by show 1 ≤ sizeLine; decide), fun r hr' => ?_⟩
    have nr1 : r ≠ pl := fun z => by rw [z, upd_same] at hr'; cases hr'
    have nr2 : r ≠ t := fun z => by rw [upd_ne nr1, z, upd_same] at hr'; cases hr'
    have hr0 : H r = none := by
      have z := hr'
      rw [upd_ne nr1, upd_ne nr2] at z
      exact z
    have nr3 : a ≠ r := ne_of_none ho hr0
    refine (D.as e).keep (pl' := pl) ⟨⟨dx, ?_⟩, ⟨rs.set x t, ?_, ?_⟩, ?_⟩ (.inl rfl) hr0 ?_ fun b o eb h1 h2 => ?_
    · rw [upd_ne nr3, upd_ne (fun z => nap z.symm), upd_ne nat']
      exact ho
    · rw [upd_ne (fun z => nr1 z.symm), upd_same, List.map_set]
    · have t1 : TupAt (upd H t (.tup [.int (p.set : Int), .int (y : Int)])) t { p with weight := y } := upd_same
      exact pairedSame (same_new hr' _) (paired_upd (Paired.put t1 x (pairedSame s1 pr)) (s1 _ _ hl) (fun l z => by cases z))
    · unfold Kp318.okW at c4
      rw [Bool.and_eq_true] at c4
      have q1 := of_decide_eq_true c4.1
      have q2 := of_decide_eq_true c4.2
      refine ⟨wk.d1, wk.d6, wk.k6, wk.b1, wk.b9, ?_, fun p' hp' => ?_⟩
      · show (u.plans.set x _).length ≤ 10
        rw [List.length_set]
        exact wk.len
      · rcases List.mem_or_eq_of_mem_set hp' with z | z
        · exact wk.pls p' z
        · subst z
          exact ⟨(wk.pls p (List.mem_of_getElem? hp)).1, q1, by show y ≤ 1000000; omega⟩
    · rw [upd_same]
      show _ = some (HO.lst [V.int ((p.weight : Nat) : Int)])
      rfl
    · rw [upd_ne (ne_of_none eb hr0), upd_ne h2, upd_ne (ne_of_none eb ht)]
      exact eb
/-! ### fair -/
theorem scFair : FnScope ["lots", "looks"] ["lots", "looks"] (defScope (top 38)) := ⟨rfl, rfl, rfl, by decide +kernel, rfl, by decide +kernel, by decide +kernel⟩
theorem fair_length (n m b : Nat) : (Kp318.fair n m b).length = (sets n m).length := by
  unfold Kp318.fair sets
  rw [List.length_map]
theorem fair_mem {n m b : Nat} (hn : n ≤ 6) (hm : m ≤ n) (h1 : 1 ≤ b) (h9 : b ≤ 9) {p : Kp318.Plan} (h : p ∈ Kp318.fair n m b) : p.set < 2 ^ n ∧ 0 < p.weight ∧ p.weight ≤ 1000000 := by
  unfold Kp318.fair at h
  obtain ⟨s, hs, rfl⟩ := List.mem_map.mp h
  have hs' := List.mem_range.mp (List.mem_filter.mp hs).1
  refine ⟨hs', Nat.pow_pos (by omega), ?_⟩
  show b ^ (m - Kp318.size n s) ≤ 1000000
  have e1 : b ^ (m - Kp318.size n s) ≤ 9 ^ (m - Kp318.size n s) := Nat.pow_le_pow_left h9 _
  have e2 : 9 ^ (m - Kp318.size n s) ≤ 9 ^ 6 := Nat.pow_le_pow_right (by omega) (by omega)
  have e3 : 9 ^ 6 ≤ 1000000 := by decide
  omega
theorem ok_fair {C fS fB : Addr} {fdS fdB : FuncData} (F : Fun K "make_fair" "make_fair" (top 38) f fd) (T : LTxt K C) (ml : mg "len" = none) (c10 : IsC mg "MOST_PLANS" 10) (cR : IsC mg "OUT_OF_RANGE" (-22)) (cM : IsC mg "TOO_MANY_PLANS" (-28))
    (S : Cal P w K mg base 2 "sets_up_to" ["days", "looks"] spSets fS fdS) (B : Cal P w K mg base 3 "best_plan" ["days", "looks", "fine"] spBestPlan fB fdB) : FnOk P w K mg base CX0 4 f fd ["lots", "looks"] (sp1 C false .fair) := by
  refine F.ok scFair (fun vs H Q E h => ?_) (fun cdv A outer s0 H vs Q E hr h => ?_)
  · exact h.len
  · refine h.elim fun a pl u x ev L _ D => ?_
    subst ev
    have hr2 : Room 2 _ := hr.mono (by decide)
    obtain ⟨dx, ho⟩ := L.w_obj
    have wk := L.w_ok
    refine ⟨_, pss_cons (ps_if (pt_cmpR op_gt (pv 1) (pe_fld (pv 0) rfl) (nomark _)) (pss_one (ps_ret (pe_lst (pa_cons (pe_const rfl cR) pa_nil)))) pss_nil)
      (pss_cons (ps_if (pt_cmpR op_gt (pe_callB call_len_seq rfl ml PySem.boot_len (pa_cons (pe_call S.ok hr2 rfl S.mg S.kp S.bd .nil pass0 (pa_cons (pe_fld (pv 0) rfl) (pa_cons (pv 1) pa_nil))) pa_nil)) (pe_const rfl c10) (nomark _)) (pss_one (ps_ret (pe_lst (pa_cons (pe_const rfl cM) pa_nil)))) pss_nil)
      (pss_cons (ps_fld (pv 0) (pe_call B.ok hr rfl B.mg B.kp B.bd .nil pass0 (pa_cons (pe_fld (pv 0) rfl) (pa_cons (pv 1) (pa_cons (pe_fld (pv 0) rfl) pa_nil)))) rfl)
      (pss_one (ps_ret (pe_lst (pa_cons (pe_callB call_len_seq rfl ml PySem.boot_len (pa_cons (pe_fld (pv 0) rfl) pa_nil)) pa_nil)))))), ?_⟩
    refine seq_open fun U hU => ?_
    refine r_cmpVF rfl rfl ho T.cl T.nD (lf_days _ _ _ _ _) ?_
    refine ite2 (fun c1 => ?_) (fun c1 => ?_)
    · have c2 : ((u.days : Nat) : Int) < (x : Int) := of_decide_eq_true c1
      have e : Kp318.step (some u) (.fair x) = (some u, Kp318.say (-22)) := by
        show (if u.days < x then _ else _) = _
        rw [if_pos (by omega)]
      exact ⟨by decide, fun r hr' => (D.as e).one L (Same.refl H) hr'⟩
    have c2 : ¬ ((u.days : Nat) : Int) < (x : Int) := of_decide_eq_false (Bool.eq_false_iff.mpr c1)
    have hx : x ≤ u.days := by omega
    have d6 := wk.d6
    subst hU
    refine seq_openN fun U hU => ?_
    refine ⟨_, rfl, a, C, dx, _, _, rfl, ho, T.cl, T.nD, lf_days _ _ _ _ _, _, rfl, u.days, x, rfl, wk.d6, fun H1 p1 s1 hp1 hl1 => ?_⟩
    refine ⟨p1, _, rfl, .inl (SqL.of hl1), _, _, rfl, rfl, _, rfl, ?_⟩
    have el : (((sets u.days x).map fun (s : Nat) => V.int (s : Int)).length : Int) = ((Kp318.fair u.days x u.fine).length : Int) := by rw [List.length_map, fair_length]
    refine ite2 (fun c3 => ?_) (fun c3 => ?_)
    · have c4 : (10 : Int) < (((sets u.days x).map fun (s : Nat) => V.int (s : Int)).length : Int) := of_decide_eq_true c3
      rw [el] at c4
      have e : Kp318.step (some u) (.fair x) = (some u, Kp318.say (-28)) := by
        show (if u.days < x then _ else if Kp318.PLANS < (Kp318.fair u.days x u.fine).length then _ else _) = _
        rw [if_neg (by omega), if_pos (by show 10 < _; omega)]
      exact ⟨by decide, fun r hr' => (D.as e).one L s1 hr'⟩
    have c4 : ¬ (10 : Int) < (((sets u.days x).map fun (s : Nat) => V.int (s : Int)).length : Int) := of_decide_eq_false (Bool.eq_false_iff.mpr c3)
    rw [el] at c4
    have e : Kp318.step (some u) (.fair x) = (some { u with plans := Kp318.fair u.days x u.fine }, Kp318.say ((Kp318.fair u.days x u.fine).length : Nat)) := by
      show (if u.days < x then _ else if Kp318.PLANS < (Kp318.fair u.days x u.fine).length then _ else _) = _
      rw [if_neg (by omega), if_neg (by show ¬ 10 < _; omega)]
    have b9 := wk.b9
    subst hU
    refine seq_openN fun U hU => ?_
    refine r_bp rfl rfl (s1 _ _ ho) T.cl T.nD T.nF (lf_days _ _ _ _ _) (lf_fine _ _ _ _ _) (wk.d6) (by omega) (by omega) fun H2 p2 s2 hp2 hl2 => ?_
    have s02 : Same H H2 := s1.trans s2
    have hp0 : H p2 = none := s1.free hp2
    have na2 : a ≠ p2 := ne_of_none ho hp0
    refine ⟨_, rfl, a, C, dx, _, rfl, s02 _ _ ho, T.cl, T.nP, lf_len _ _ _ _ _, ?_⟩
    obtain ⟨rs2, hl3, pr2⟩ := hl2
    subst hU
    refine r_fld rfl ((by rw [upd_same, lf_pPlans])) T.cl T.nP (lf_plans _ _ _ _ _) ⟨p2, _, rfl, .inl (SqL.of (by rw [upd_ne (fun z => na2 z.symm)]; exact hl3)), (by show 1 ≤ sizeLine; decide), fun r hr' => ?_⟩
    have nra : r ≠ a := fun z => by rw [z, upd_same] at hr'; cases hr'
    have hr2' : H2 r = none := by
      have z := hr'
      rw [upd_ne nra] at z
      exact z
    have hr0 : H r = none := s02.free hr2'
    refine (D.as e).keep (pl' := p2) ⟨⟨dx, ?_⟩, ⟨rs2, ?_, ?_⟩, ?_⟩ (.inr hp0) hr0 ?_ fun b o eb h1 h2 => ?_
    · rw [upd_ne (fun z => nra z.symm), upd_same, lf_pPlans]
      rfl
    · rw [upd_ne (ne_of_none hl3 hr2'), upd_ne (fun z => na2 z.symm)]
      exact hl3
    · exact pairedSame (same_new hr' _) (paired_upd pr2 (s02 _ _ ho) (fun l z => by cases z))
    · exact ⟨wk.d1, wk.d6, wk.k6, wk.b1, wk.b9, by show (Kp318.fair u.days x u.fine).length ≤ 10; omega, fun p hp => fair_mem wk.d6 hx wk.b1 wk.b9 hp⟩
    · rw [upd_same, len_int pr2]
      rfl
    · rw [upd_ne (ne_of_none eb hr0), upd_ne h1]
      exact s02 _ _ eb
end
end Pl

set_option Elab.async false
set_option linter.all false
set_option maxRecDepth 100000
set_option maxHeartbeats 2000000
namespace Pl
open PySem PySem.Spec PyProof.Rows L2
section
variable {P : Program} {w : World} {K : PySem.W.Frag} {mg : Str → Option Value} {base : Heap} {f : Addr} {fd : FuncData}
/-- all that the tells lean on: the object's class, the game's class and its methods, the sums, the fractions -/
structure Kit (P : Program) (w : World) (K : PySem.W.Frag) (mg : Str → Option Value) (base : Heap) (C G fI fB fD fWt fP fL fR fW fT : Addr) (fdI fdB fdD fdWt fdP fdL fdR fdW fdT : FuncData) : Prop where
  T : LTxt K C
  GT : GTxt K G
  made : Mk K G fI
  okI : FnOk P w K mg base CX0 1 fI fdI ["self", "days", "fine"] (spGInit G)
  bI : Binds K fdI ["self", "days", "fine"] []
  mgG : mg "Game" = some (.ref G)
  B : CalM P w K mg base 16 G "best" pB (spBest G 7) fB fdB
  D : CalM P w K mg base 17 G "daring" pB (spDare G 7) fD fdD
  W : CalM P w K mg base 17 G "waiting" pB (spWait G 7) fWt fdWt
  Pd : CalM P w K mg base 16 G "played" pB (spPlayed G 7) fP fdP
  L : Cal P w K mg base 2 "looking" ["plans", "day"] (spPart Kp318.with_) fL fdL
  R : Cal P w K mg base 2 "resting" ["plans", "day"] (spPart Kp318.without) fR fdR
  Wt : Cal P w K mg base 2 "weight_of" ["plans"] spWeight fW fdW
  Tf : Cal P w K mg base 3 "told_fraction" ["above", "below"] spTold fT fdT
variable {C G fI fB fD fWt fP fL fR fW fT : Addr} {fdI fdB fdD fdWt fdP fdL fdR fdW fdT : FuncData}
theorem WOk.sum {u : Kp318.Watch} (k : WOk u) (hp : u.plans ≠ []) : 0 < Kp318.total u.plans ∧ Kp318.total u.plans < 2 ^ 64 := by
  have h1 := total_pos hp fun p q => (k.pls p q).2.1
  have h2 := total_le fun p q => (k.pls p q).2.2
  have h3 := k.len
  omega
theorem isE {ps : List Kp318.Plan} (h : ps ≠ []) : ¬ ps.isEmpty = true := by cases ps <;> simp at *
theorem r_game {a dx : Addr} {fs : List (Str × V)} {n b i : Nat} {σ : L2.St} {H : Hp} {Q : VK} (e : σ[i]? = some (some (.ref a))) (ho : H a = some (.ins C dx fs)) (cl : Cls K C) (na : NoAttr K C "days") (nb : NoAttr K C "fine") (l1 : fs.lookup ("days" : Str) = some (.int (n : Int))) (l2 : fs.lookup ("fine" : Str) = some (.int (b : Int)))
    (q : ∀ (H1 : Hp) (g dg : Addr), Same H H1 → H1 g = some (.ins G dg (gf n b)) → Q (.ref g) H1) : tMake G (spGInit G) [] E0 (tCons (tFld K (tVar i) "days") (tCons (tFld K (tVar i) "fine") tNil)) σ H Q :=
  ⟨_, e, a, C, dx, fs, _, rfl, ho, cl, na, l1, _, e, a, C, dx, fs, _, rfl, ho, cl, nb, l2, fun g dg hg hdg ndg => ⟨g, dg, n, b, rfl, upd_same, fun H1 hG kp => ⟨rfl, Exists.elim hG fun dg' hG' => q H1 g dg' (Same.made hg hdg kp) hG'⟩⟩⟩
theorem r_gameM {a dx : Addr} {fs : List (Str × V)} {n b i : Nat} {σ : L2.St} {H : Hp} {Q : VK} {m : Str} {sp : Sp} {t : TA} (h1 : ¬ m = "fine") (h2 : ¬ m = "days") (e : σ[i]? = some (some (.ref a))) (ho : H a = some (.ins C dx fs)) (cl : Cls K C) (na : NoAttr K C "days") (nb : NoAttr K C "fine") (l1 : fs.lookup ("days" : Str) = some (.int (n : Int))) (l2 : fs.lookup ("fine" : Str) = some (.int (b : Int)))
    (q : ∀ (H1 : Hp) (g dg : Addr), Same H H1 → H1 g = some (.ins G dg (gf n b)) → t σ H1 fun vs H2 => sp (.ref g :: (vs ++ [])) H2 Q E0) : tMeth G m sp [] E0 (tMake G (spGInit G) [] E0 (tCons (tFld K (tVar i) "days") (tCons (tFld K (tVar i) "fine") tNil))) t σ H Q := by
  show tMake G (spGInit G) [] E0 (tCons (tFld K (tVar i) "days") (tCons (tFld K (tVar i) "fine") tNil)) σ H (fun x H1 => ∃ a dx fs, x = .ref a ∧ H1 a = some (.ins G dx fs) ∧ fs.lookup m = none ∧ t σ H1 fun vs H2 => sp (x :: (vs ++ [])) H2 Q E0)
  exact r_game e ho cl na nb l1 l2 fun H1 g dg s hG => ⟨g, dg, _, rfl, hG, gf_no n b h1 h2, q H1 g dg s hG⟩
/-! best_gain, outcome -/
noncomputable def spGain (C : Addr) : Sp := fun vs H Q _ => ∃ (a pl l : Addr) (u : Kp318.Watch) (ps : List Kp318.Plan), vs = [.ref a, .ref l] ∧ LotsAt C H a pl (some u) ∧ PL H l ps ∧ ps.length ≤ 1000 ∧ ∀ H' : Hp, Same H H' → Q (.int (Kp318.replyUp u.fine u.days 0 ps u.misdeeds)) H'
theorem scGain : FnScope ["lots", "plans"] ["lots", "plans"] (defScope (top 40)) := ⟨rfl, rfl, rfl, by decide +kernel, rfl, by decide +kernel, by decide +kernel⟩
theorem ok_gain (F : Fun K "best_gain" "best_gain" (top 40) f fd) (X : Kit P w K mg base C G fI fB fD fWt fP fL fR fW fT fdI fdB fdD fdWt fdP fdL fdR fdW fdT) : FnOk P w K mg base CX0 17 f fd ["lots", "plans"] (spGain C) := by
  refine F.ok scGain (fun vs H Q E h => ?_) (fun cdv A outer s0 H vs Q E hr h => ?_)
  · obtain ⟨a, pl, l, u, ps, rfl, _⟩ := h
    rfl
  · obtain ⟨a, pl, l, u, ps, rfl, L, hP, len, q⟩ := h
    have hr2 : Room 2 _ := hr.mono (by decide)
    obtain ⟨dx, ho⟩ := L.w_obj
    have wk := L.w_ok
    have d6 := wk.d6
    have b9 := wk.b9
    refine ⟨_, pss_one (ps_ret (pe_meth (pe_make X.made X.okI hr2 rfl X.mgG X.bI .nil pass0 (pa_cons (pe_fld (pv 0) rfl) (pa_cons (pe_fld (pv 0) rfl) pa_nil))) X.GT.cl X.B.mt X.B.ok hr X.B.bd .nil pass0 (pa_cons (pv 1) (pa_cons pe_int (pa_cons (pe_fld (pv 0) rfl) pa_nil))))), ?_⟩
    refine r_gameM (by decide +kernel) (by decide +kernel) rfl (ho) X.T.cl X.T.nD X.T.nF (lf_days _ _ _ _ _) (lf_fine _ _ _ _ _) fun H1 g dg' s1 hG' => ?_
    refine ⟨_, rfl, _, rfl, a, C, dx, _, _, rfl, s1 _ _ ho, X.T.cl, X.T.nM, lf_misdeeds _ _ _ _ _,
      g, l, u.days, u.fine, 0, u.misdeeds, ps, rfl, ⟨dg', hG'⟩, wk.f1000, hP.same s1, len, Nat.zero_le _, wk.d7, fun H2 s2 => ?_⟩
    exact q H2 (s1.trans s2)
noncomputable def spOut (C : Addr) : Sp := fun vs H Q _ => ∃ (a pl : Addr) (u : Kp318.Watch), vs = [.ref a] ∧ LotsAt C H a pl (some u) ∧ ∀ (H' : Hp) (p : Addr), Same H H' → H p = none → H' p = some (.tup [.int ((Kp318.outcome u).1 : Int), .int ((Kp318.outcome u).2 : Int)]) → Q (.ref p) H'
theorem scOut : FnScope ["lots"] ["lots"] (defScope (top 52)) := ⟨rfl, rfl, rfl, by decide +kernel, rfl, by decide +kernel, by decide +kernel⟩
theorem ok_out (F : Fun K "outcome" "outcome" (top 52) f fd) (X : Kit P w K mg base C G fI fB fD fWt fP fL fR fW fT fdI fdB fdD fdWt fdP fdL fdR fdW fdT) : FnOk P w K mg base CX0 17 f fd ["lots"] (spOut C) := by
  refine F.ok scOut (fun vs H Q E h => ?_) (fun cdv A outer s0 H vs Q E hr h => ?_)
  · obtain ⟨a, pl, u, rfl, _⟩ := h
    rfl
  · obtain ⟨a, pl, u, rfl, L, q⟩ := h
    have hr2 : Room 2 _ := hr.mono (by decide)
    obtain ⟨dx, ho⟩ := L.w_obj
    have hP := L.w_pls
    have wk := L.w_ok
    have d6 := wk.d6
    have b9 := wk.b9
    have l10 := wk.len
    refine ⟨_, pss_one (ps_ret (pe_meth (pe_make X.made X.okI hr2 rfl X.mgG X.bI .nil pass0 (pa_cons (pe_fld (pv 0) rfl) (pa_cons (pe_fld (pv 0) rfl) pa_nil))) X.GT.cl X.Pd.mt X.Pd.ok hr X.Pd.bd .nil pass0 (pa_cons (pe_fld (pv 0) rfl) (pa_cons pe_int (pa_cons (pe_fld (pv 0) rfl) pa_nil))))), ?_⟩
    refine r_gameM (by decide +kernel) (by decide +kernel) rfl (ho) X.T.cl X.T.nD X.T.nF (lf_days _ _ _ _ _) (lf_fine _ _ _ _ _) fun H1 g dg' s1 hG' => ?_
    refine r_fld rfl (s1 _ _ ho) X.T.cl X.T.nP (lf_plans _ _ _ _ _) ⟨_, rfl, a, C, dx, _, _, rfl, s1 _ _ ho, X.T.cl, X.T.nM, lf_misdeeds _ _ _ _ _,
      g, pl, u.days, u.fine, 0, u.misdeeds, u.plans, rfl, ⟨dg', hG'⟩, wk.f1000, hP.same s1, wk.l1000, Nat.zero_le _, wk.d7, fun H2 p2 s2 n2 h2 => ?_⟩
    exact q H2 p2 (s1.trans s2) (s1.free n2) h2
theorem scReply : FnScope ["lots"] ["lots"] (defScope (top 41)) := ⟨rfl, rfl, rfl, by decide +kernel, rfl, by decide +kernel, by decide +kernel⟩
theorem ok_reply {fG : Addr} {fdG : FuncData} (F : Fun K "tell_reply" "tell_reply" (top 41) f fd) (X : Kit P w K mg base C G fI fB fD fWt fP fL fR fW fT fdI fdB fdD fdWt fdP fdL fdR fdW fdT) (Gn : Cal P w K mg base 17 "best_gain" ["lots", "plans"] (spGain C) fG fdG) : FnOk P w K mg base CX0 18 f fd ["lots"] (sp0 C true .reply) := by
  refine F.ok scReply (fun vs H Q E h => ?_) (fun cdv A outer s0 H vs Q E hr h => ?_)
  · exact h.len
  · refine h.elim fun a pl u ev L need D => ?_
    subst ev
    have hr2 : Room 2 _ := hr.mono (by decide)
    have hr3 : Room 3 _ := hr.mono (by decide)
    obtain ⟨dx, ho⟩ := L.w_obj
    have hP := L.w_pls
    have wk := L.w_ok
    have hn := need rfl
    obtain ⟨t0, t1⟩ := wk.sum hn
    have e : Kp318.step (some u) .reply = (some u, Kp318.part u (Kp318.reply u)) := by
      show (if u.plans.isEmpty = true then _ else _) = _
      rw [if_neg (isE hn)]
    have l10 := wk.len
    refine ⟨_, pss_one (ps_ret (pe_call X.Tf.ok hr3 rfl X.Tf.mg X.Tf.kp X.Tf.bd .nil pass0 (pa_cons (pe_call Gn.ok hr rfl Gn.mg Gn.kp Gn.bd .nil pass0 (pa_cons (pv 0) (pa_cons (pe_fld (pv 0) rfl) pa_nil)))
      (pa_cons (pe_call X.Wt.ok hr2 rfl X.Wt.mg X.Wt.kp X.Wt.bd .nil pass0 (pa_cons (pe_fld (pv 0) rfl) pa_nil)) pa_nil)))), ?_⟩
    refine ⟨_, rfl, r_fld rfl (ho) X.T.cl X.T.nP (lf_plans _ _ _ _ _) ⟨a, pl, pl, u, u.plans, rfl, L, hP, wk.l1000, fun H1 s1 => ?_⟩⟩
    refine r_wtF rfl (s1 _ _ ho) X.T.cl X.T.nP (lf_plans _ _ _ _ _) (hP.same s1) wk.l1000 fun H2 s2 => ?_
    refine ⟨_, _, rfl, t0, t1, fun H3 r s3 hr3 hl3 => ?_⟩
    have s02 : Same H H2 := s1.trans s2
    exact (D.as e).same L (s02.trans s3) (s02.free hr3) hl3
theorem scLooked : FnScope ["lots", "day"] ["lots", "day"] (defScope (top 44)) := ⟨rfl, rfl, rfl, by decide +kernel, rfl, by decide +kernel, by decide +kernel⟩
theorem ok_looked (F : Fun K "tell_looked" "tell_looked" (top 44) f fd) (cR : IsC mg "OUT_OF_RANGE" (-22)) (X : Kit P w K mg base C G fI fB fD fWt fP fL fR fW fT fdI fdB fdD fdWt fdP fdL fdR fdW fdT) : FnOk P w K mg base CX0 18 f fd ["lots", "day"] (sp1 C true .looked) := by
  refine F.ok scLooked (fun vs H Q E h => ?_) (fun cdv A outer s0 H vs Q E hr h => ?_)
  · exact h.len
  · refine h.elim fun a pl u x ev L need D => ?_
    subst ev
    have hr2 : Room 2 _ := hr.mono (by decide)
    have hr3 : Room 3 _ := hr.mono (by decide)
    obtain ⟨dx, ho⟩ := L.w_obj
    have hP := L.w_pls
    have wk := L.w_ok
    have hn := need rfl
    obtain ⟨t0, t1⟩ := wk.sum hn
    have l10 := wk.len
    refine ⟨_, pss_cons (ps_if (pt_cmpR op_ge (pv 1) (pe_fld (pv 0) rfl) (nomark _)) (pss_one (ps_ret (pe_lst (pa_cons (pe_const rfl cR) pa_nil)))) pss_nil)
      (pss_one (ps_ret (pe_call X.Tf.ok hr3 rfl X.Tf.mg X.Tf.kp X.Tf.bd .nil pass0 (pa_cons (pe_call X.Wt.ok hr2 rfl X.Wt.mg X.Wt.kp X.Wt.bd .nil pass0 (pa_cons (pe_call X.L.ok hr2 rfl X.L.mg X.L.kp X.L.bd .nil pass0 (pa_cons (pe_fld (pv 0) rfl) (pa_cons (pv 1) pa_nil))) pa_nil))
        (pa_cons (pe_call X.Wt.ok hr2 rfl X.Wt.mg X.Wt.kp X.Wt.bd .nil pass0 (pa_cons (pe_fld (pv 0) rfl) pa_nil)) pa_nil))))), ?_⟩
    refine seq_open fun U hU => ?_
    refine r_cmpVF rfl rfl ho X.T.cl X.T.nD (lf_days _ _ _ _ _) ?_
    refine ite2 (fun c1 => ?_) (fun c1 => ?_)
    · have c2 : ((u.days : Nat) : Int) ≤ (x : Int) := of_decide_eq_true c1
      have e : Kp318.step (some u) (.looked x) = (some u, Kp318.say (-22)) := by
        show (if u.plans.isEmpty = true then _ else (some u, if u.days ≤ x then _ else _)) = _
        rw [if_neg (isE hn), if_pos (le_of_int c2)]
      exact ⟨by decide, fun r hr' => (D.as e).one L (Same.refl H) hr'⟩
    have c2 : ¬ ((u.days : Nat) : Int) ≤ (x : Int) := of_decide_eq_false (Bool.eq_false_iff.mpr c1)
    have e : Kp318.step (some u) (.looked x) = (some u, Kp318.part u (Kp318.total (Kp318.with_ u.plans x))) := by
      show (if u.plans.isEmpty = true then _ else (some u, if u.days ≤ x then _ else _)) = _
      rw [if_neg (isE hn), if_neg (Nat.not_le.mpr (not_le_int c2))]
    subst hU
    refine ⟨_, rfl, a, C, dx, _, _, rfl, ho, X.T.cl, X.T.nP, lf_plans _ _ _ _ _, _, rfl, pl, x, u.plans, rfl, hP, wk.l1000, fun H1 p1 s1 hp1 hl1 => ?_⟩
    refine ⟨p1, _, rfl, hl1, len_part _ wk.l1000, fun H2 s2 => ?_⟩
    have s02 : Same H H2 := s1.trans s2
    refine r_wtF rfl (s02 _ _ ho) X.T.cl X.T.nP (lf_plans _ _ _ _ _) (hP.same s02) wk.l1000 fun H3 s3 => ?_
    refine ⟨_, _, rfl, t0, t1, fun H4 r s4 hr4 hl4 => ?_⟩
    have s03 : Same H H3 := s02.trans s3
    exact (D.as e).same L (s03.trans s4) (s03.free hr4) hl4
theorem scDares : FnScope ["lots", "game", "daring", "waiting"] ["lots"] (defScope (top 42)) := ⟨rfl, rfl, rfl, by decide +kernel, rfl, by decide +kernel, by decide +kernel⟩
theorem ok_dares (F : Fun K "tell_dares" "tell_dares" (top 42) f fd) (X : Kit P w K mg base C G fI fB fD fWt fP fL fR fW fT fdI fdB fdD fdWt fdP fdL fdR fdW fdT) : FnOk P w K mg base CX0 18 f fd ["lots"] (sp0 C true .dares) := by
  refine F.ok scDares (fun vs H Q E h => ?_) (fun cdv A outer s0 H vs Q E hr h => ?_)
  · exact h.len
  · refine h.elim fun a pl u ev L need D => ?_
    subst ev
    have hr2 : Room 2 _ := hr.mono (by decide)
    obtain ⟨dx, ho⟩ := L.w_obj
    have hP := L.w_pls
    have wk := L.w_ok
    have hn := need rfl
    have d1 := wk.d1
    have d6 := wk.d6
    have b9 := wk.b9
    have l10 := wk.len
    refine ⟨_, pss_cons (ps_if (pt_cmpR op_eq (pe_fld (pv 0) rfl) pe_int (nomark _)) (pss_one (ps_ret (pe_lst (pa_cons pe_int pa_nil)))) pss_nil)
      (pss_cons (ps_set (i := 1) scDares.nd rfl (Or.inl rfl) (pe_make X.made X.okI hr2 rfl X.mgG X.bI .nil pass0 (pa_cons (pe_fld (pv 0) rfl) (pa_cons (pe_fld (pv 0) rfl) pa_nil))))
      (pss_cons (ps_set (i := 2) scDares.nd rfl (Or.inl rfl) (pe_meth (pv 1) X.GT.cl X.D.mt X.D.ok hr X.D.bd .nil pass0 (pa_cons (pe_fld (pv 0) rfl) (pa_cons pe_int (pa_cons (pe_fld (pv 0) rfl) pa_nil)))))
      (pss_cons (ps_set (i := 3) scDares.nd rfl (Or.inl rfl) (pe_meth (pv 1) X.GT.cl X.W.mt X.W.ok hr X.W.bd .nil pass0 (pa_cons (pe_fld (pv 0) rfl) (pa_cons pe_int (pa_cons (pe_fld (pv 0) rfl) pa_nil)))))
      (pss_cons (ps_if (pt_cmpR op_eq (pv 2) (pv 3) (nomark _)) (pss_one (ps_ret (pe_lst (pa_cons pe_int pa_nil)))) pss_nil)
      (pss_one (ps_ret (pe_lst (pa_cons (pe_ifExp (pt_cmpR op_gt (pv 2) (pv 3) (nomark _)) pe_int pe_int) pa_nil)))))))), ?_⟩
    refine seq_open fun U hU => ?_
    refine ⟨_, rfl, a, C, dx, _, _, rfl, ho, X.T.cl, X.T.nM, lf_misdeeds _ _ _ _ _, rfl, _, rfl, ?_⟩
    refine ite2 (fun c1 => ?_) (fun c1 => ?_)
    · have c1' : V.int (u.misdeeds : Int) = V.int 0 := of_decide_eq_true c1
      have c2 : u.misdeeds = 0 := int_zero c1'
      have e : Kp318.step (some u) .dares = (some u, Kp318.say 0) := by
        show (if u.plans.isEmpty = true then _ else (some u, if u.misdeeds = 0 then _ else _)) = _
        rw [if_neg (isE hn), if_pos c2]
      exact ⟨by decide, fun r hr' => (D.as e).one L (Same.refl H) hr'⟩
    have c1' : ¬ V.int (u.misdeeds : Int) = V.int 0 := of_decide_eq_false (Bool.eq_false_iff.mpr c1)
    have c2 : ¬ u.misdeeds = 0 := fun z => c1' (by rw [z]; rfl)
    have e : Kp318.step (some u) .dares = (some u, Kp318.say (if Kp318.waits u.fine u.days 0 u.plans u.misdeeds < Kp318.dares u.fine u.days 0 u.plans u.misdeeds then 1 else if Kp318.dares u.fine u.days 0 u.plans u.misdeeds < Kp318.waits u.fine u.days 0 u.plans u.misdeeds then 0 else 2)) := by
      show (if u.plans.isEmpty = true then _ else (some u, if u.misdeeds = 0 then _ else _)) = _
      rw [if_neg (isE hn), if_neg c2]
    subst hU
    refine seq_openN fun U hU => ?_
    refine r_game rfl (ho) X.T.cl X.T.nD X.T.nF (lf_days _ _ _ _ _) (lf_fine _ _ _ _ _) fun H1 g dg' s1 hG' => ?_
    subst hU
    refine seq_openN fun U hU => ?_
    refine r_meth rfl (hG') (gf_no _ _ (by decide +kernel) (by decide +kernel)) (r_fld rfl (s1 _ _ ho) X.T.cl X.T.nP (lf_plans _ _ _ _ _) ⟨_, rfl, a, C, dx, _, _, rfl, s1 _ _ ho, X.T.cl, X.T.nM, lf_misdeeds _ _ _ _ _,
      g, pl, u.days, u.fine, 0, u.misdeeds, u.plans, rfl, ⟨dg', hG'⟩, wk.f1000, hP.same s1, wk.l1000, d1, by omega, by omega, fun H2 s2 => ?_⟩)
    have s02 : Same H H2 := s1.trans s2
    subst hU
    refine seq_openN fun U hU => ?_
    refine r_meth rfl (s2 _ _ hG') (gf_no _ _ (by decide +kernel) (by decide +kernel)) (r_fld rfl (s02 _ _ ho) X.T.cl X.T.nP (lf_plans _ _ _ _ _) ⟨_, rfl, a, C, dx, _, _, rfl, s02 _ _ ho, X.T.cl, X.T.nM, lf_misdeeds _ _ _ _ _,
      g, pl, u.days, u.fine, 0, u.misdeeds, u.plans, rfl, ⟨dg', s2 _ _ hG'⟩, wk.f1000, hP.same s02, wk.l1000, d1, by omega, fun H3 s3 => ?_⟩)
    have s03 : Same H H3 := s02.trans s3
    generalize Kp318.dares u.fine u.days 0 u.plans u.misdeeds = dv at *
    generalize Kp318.waits u.fine u.days 0 u.plans u.misdeeds = wv at *
    subst hU
    refine seq_openN fun U hU => ?_
    refine ⟨_, rfl, _, rfl, rfl, _, rfl, ?_⟩
    refine ite2 (fun c3 => ?_) (fun c3 => ?_)
    · have c3' : V.int dv = V.int wv := of_decide_eq_true c3
      have c4 : dv = wv := by injection c3'
      rw [if_neg (by omega), if_neg (by omega)] at e
      exact ⟨by decide, fun r hr' => (D.as e).one L s03 hr'⟩
    have c3' : ¬ V.int dv = V.int wv := of_decide_eq_false (Bool.eq_false_iff.mpr c3)
    have c4 : ¬ dv = wv := fun z => c3' (by rw [z])
    subst hU
    refine ⟨_, rfl, _, rfl, _, _, rfl, rfl, _, rfl, ?_⟩
    refine ite2 (fun c5 => ?_) (fun c5 => ?_)
    · have c6 : wv < dv := of_decide_eq_true c5
      rw [if_pos c6] at e
      exact ⟨by decide, fun r hr' => (D.as e).one L s03 hr'⟩
    · have c6 : ¬ wv < dv := of_decide_eq_false (Bool.eq_false_iff.mpr c5)
      rw [if_neg c6, if_pos (by omega)] at e
      exact ⟨by decide, fun r hr' => (D.as e).one L s03 hr'⟩
theorem scSeen : FnScope ["lots", "day", "seen", "misdeeds", "plans", "gain"] ["lots", "day", "seen", "misdeeds"] (defScope (top 43)) := ⟨rfl, rfl, rfl, by decide +kernel, rfl, by decide +kernel, by decide +kernel⟩
theorem seen_agree {u : Kp318.Watch} {t s : Nat} (hs : s < 2 ^ t) : Kp318.asSeen u t s = agree u.plans t s := by
  unfold Kp318.asSeen agree
  apply List.filter_congr
  intro p _
  exact Mth.seen_mod p.set s t hs
theorem ok_seen {fF fM fA : Addr} {fdF fdM fdA : FuncData} (F : Fun K "tell_seen" "tell_seen" (top 43) f fd) (ml : mg "len" = none) (cR : IsC mg "OUT_OF_RANGE" (-22)) (cS : IsC mg "NEVER_SEEN_SO" (-33)) (Ft : Cal P w K mg base 1 "fits" ["days_of_set", "days"] spFits fF fdF)
    (M : Cal P w K mg base 1 "is_misdeeds" ["number"] spMis fM fdM) (Ag : Cal P w K mg base 2 "agreeing" ["plans", "day", "seen"] spAgree fA fdA)
    (X : Kit P w K mg base C G fI fB fD fWt fP fL fR fW fT fdI fdB fdD fdWt fdP fdL fdR fdW fdT) : FnOk P w K mg base CX0 18 f fd ["lots", "day", "seen", "misdeeds"] (sp3 C true .seen) := by
  refine F.ok scSeen (fun vs H Q E h => ?_) (fun cdv A outer s0 H vs Q E hr h => ?_)
  · exact h.len
  · refine h.elim fun a pl u x y z ev L need D => ?_
    subst ev
    have hr1 : Room 1 _ := hr.mono (by decide)
    have hr2 : Room 2 _ := hr.mono (by decide)
    have hr3 : Room 3 _ := hr.mono (by decide)
    have hr16 : Room 16 _ := hr.mono (by decide)
    obtain ⟨dx, ho⟩ := L.w_obj
    have hP := L.w_pls
    have wk := L.w_ok
    have hn := need rfl
    have d6 := wk.d6
    have b9 := wk.b9
    have l10 := wk.len
    have bad : (u.days ≤ x ∨ 2 ^ x ≤ y ∨ 6 < z) → 1 ≤ sizeLine ∧ ∀ r, H r = none → Q (.ref r) (upd H r (.lst [.int (-22)])) := fun c => by
      have e : Kp318.step (some u) (.seen x y z) = (some u, Kp318.say (-22)) := by
        show (if u.plans.isEmpty = true then _ else (some u, if u.days ≤ x ∨ 2 ^ x ≤ y ∨ 6 < z then _ else _)) = _
        rw [if_neg (isE hn), if_pos c]
      exact ⟨by decide, fun r hr' => (D.as e).one L (Same.refl H) hr'⟩
    refine ⟨_, pss_cons (ps_if (PW.pt (pw_or (pt_cmpR op_ge (pv 1) (pe_fld (pv 0) rfl) (nomark _)) (pw_or (pt_not (pt_val (pe_call Ft.ok hr1 rfl Ft.mg Ft.kp Ft.bd .nil pass0 (pa_cons (pv 2) (pa_cons (pv 1) pa_nil))))) (pw_or1 (pt_not (pt_val (pe_call M.ok hr1 rfl M.mg M.kp M.bd .nil pass0 (pa_cons (pv 3) pa_nil))))))))
        (pss_one (ps_ret (pe_lst (pa_cons (pe_const rfl cR) pa_nil)))) pss_nil)
      (pss_cons (ps_set (i := 4) scSeen.nd rfl (Or.inl rfl) (pe_call Ag.ok hr2 rfl Ag.mg Ag.kp Ag.bd .nil pass0 (pa_cons (pe_fld (pv 0) rfl) (pa_cons (pv 1) (pa_cons (pv 2) pa_nil)))))
      (pss_cons (ps_if (pt_cmpR op_eq (pe_callB call_len_seq rfl ml PySem.boot_len (pa_cons (pv 4) pa_nil)) pe_int (nomark _)) (pss_one (ps_ret (pe_lst (pa_cons (pe_const rfl cS) pa_nil)))) pss_nil)
      (pss_cons (ps_set (i := 5) scSeen.nd rfl (Or.inl rfl) (pe_meth (pe_make X.made X.okI hr2 rfl X.mgG X.bI .nil pass0 (pa_cons (pe_fld (pv 0) rfl) (pa_cons (pe_fld (pv 0) rfl) pa_nil))) X.GT.cl X.B.mt X.B.ok hr16 X.B.bd .nil pass0 (pa_cons (pv 4) (pa_cons (pv 1) (pa_cons (pv 3) pa_nil)))))
      (pss_one (ps_ret (pe_call X.Tf.ok hr3 rfl X.Tf.mg X.Tf.kp X.Tf.bd .nil pass0 (pa_cons (pv 5) (pa_cons (pe_call X.Wt.ok hr2 rfl X.Wt.mg X.Wt.kp X.Wt.bd .nil pass0 (pa_cons (pv 4) pa_nil)) pa_nil)))))))), ?_⟩
    refine seq_open fun U hU => ?_
    refine r_cmpVF rfl rfl ho X.T.cl X.T.nD (lf_days _ _ _ _ _) ?_
    refine ite2 (fun c1 => iteT ?_) (fun c1 => ?_)
    · have c2 : ((u.days : Nat) : Int) ≤ (x : Int) := of_decide_eq_true c1
      exact bad (.inl (le_of_int c2))
    have c2 : ¬ ((u.days : Nat) : Int) ≤ (x : Int) := of_decide_eq_false (Bool.eq_false_iff.mpr c1)
    refine ⟨_, rfl, _, rfl, y, x, rfl, _, rfl, ?_⟩
    refine ite2 (fun c3 => iteT ?_) (fun c3 => ?_)
    · have c4 := of_decide_eq_false (not_t c3)
      exact bad (.inr (.inl (Nat.not_lt.mp c4)))
    have c4 := of_decide_eq_true (not_f c3)
    refine ⟨_, rfl, z, rfl, _, rfl, ?_⟩
    refine ite2 (fun c5 => ?_) (fun c5 => ?_)
    · have c6 := of_decide_eq_false (not_t c5)
      exact bad (.inr (.inr (Nat.not_le.mp c6)))
    have c6 := of_decide_eq_true (not_f c5)
    have nb : ¬ (u.days ≤ x ∨ 2 ^ x ≤ y ∨ 6 < z) := fun q => by
      rcases q with q | q | q <;> omega
    have e0 : Kp318.step (some u) (.seen x y z) = (some u, if (agree u.plans x y).isEmpty = true then Kp318.say (-33) else Kp318.tell (Kp317.red (Kp318.replyUp u.fine (u.days - x) x (agree u.plans x y) z) (Kp318.total (agree u.plans x y)))) := by
      show (if u.plans.isEmpty = true then _ else (some u, if u.days ≤ x ∨ 2 ^ x ≤ y ∨ 6 < z then _ else _)) = _
      rw [if_neg (isE hn), if_neg nb, seen_agree c4]
    subst hU
    refine seq_openN fun U hU => ?_
    refine ⟨_, rfl, a, C, dx, _, _, rfl, ho, X.T.cl, X.T.nP, lf_plans _ _ _ _ _, _, rfl, _, rfl, pl, x, y, u.plans, rfl, by omega, hP, wk.l1000, fun H1 p1 s1 hp1 hl1 => ?_⟩
    have hmem : ∀ p ∈ agree u.plans x y, 0 < p.weight ∧ p.weight ≤ 1000000 := fun p hp => (wk.pls p (List.mem_filter.mp hp).1).2
    have hlen : (agree u.plans x y).length ≤ 10 := Nat.le_trans (List.length_filter_le _ _) l10
    generalize agree u.plans x y = ag at *
    obtain ⟨rs, hl2, pr2⟩ := hl1
    subst hU
    refine seq_openN fun U hU => ?_
    refine ⟨_, rfl, p1, _, rfl, .inl (SqL.of hl2), rfl, _, rfl, ?_⟩
    have elen := len_int pr2
    refine ite2 (fun c7 => ?_) (fun c7 => ?_)
    · have c7' : V.int ((rs.map V.ref).length : Int) = V.int 0 := of_decide_eq_true c7
      rw [elen] at c7'
      have c8 : ag = [] := by
        injection c7' with q
        exact List.length_eq_zero_iff.mp (by omega)
      rw [if_pos (by rw [c8]; rfl)] at e0
      exact ⟨by decide, fun r hr' => (D.as e0).one L s1 hr'⟩
    have c7' : ¬ V.int ((rs.map V.ref).length : Int) = V.int 0 := of_decide_eq_false (Bool.eq_false_iff.mpr c7)
    rw [elen] at c7'
    have c8 : ag ≠ [] := fun q => c7' (by rw [q]; rfl)
    rw [if_neg (isE c8)] at e0
    have hl1 : PL H1 p1 ag := ⟨rs, hl2, pr2⟩
    have t0 := total_pos c8 fun p q => (hmem p q).1
    have t1 := total_le fun p q => (hmem p q).2
    subst hU
    refine seq_openN fun U hU => ?_
    refine r_gameM (by decide +kernel) (by decide +kernel) rfl (s1 _ _ ho) X.T.cl X.T.nD X.T.nF (lf_days _ _ _ _ _) (lf_fine _ _ _ _ _) fun H2 g dg' s2 hG' => ?_
    refine ⟨_, rfl, _, rfl, _, rfl, g, p1, u.days, u.fine, x, z, ag, rfl, ⟨dg', hG'⟩, by omega, hl1.same s2, by omega, by omega, by omega, fun H3 s3 => ?_⟩
    have s13 : Same H1 H3 := s2.trans s3
    subst hU
    refine ⟨_, rfl, _, rfl, p1, ag, rfl, hl1.same s13, by omega, fun H4 s4 => ?_⟩
    refine ⟨_, _, rfl, t0, by omega, fun H5 r s5 hr5 hl5 => ?_⟩
    have s04 : Same H H4 := (s1.trans s13).trans s4
    exact (D.as e0).same L (s04.trans s5) (s04.free hr5) hl5
end
end Pl

set_option Elab.async false
set_option linter.all false
set_option maxRecDepth 100000
set_option maxHeartbeats 2000000
namespace Pl
open PySem PySem.Spec PyProof.Rows L2
/-! ### sums and the most, in plain Lean -/
noncomputable def looksOf (n : Nat) (ps : List Kp318.Plan) : Nat := ps.foldl (fun (a : Nat) (p : Kp318.Plan) => a + p.weight * Kp318.size n p.set) 0
theorem foldl_looks (n : Nat) : ∀ (ps : List Kp318.Plan) (c : Nat), ps.foldl (fun (a : Nat) (p : Kp318.Plan) => a + p.weight * Kp318.size n p.set) c = c + looksOf n ps
  | [], c => rfl
  | p :: ps, c => by
    show ps.foldl _ (c + p.weight * Kp318.size n p.set) = c + ps.foldl _ (0 + p.weight * Kp318.size n p.set)
    rw [foldl_looks n ps, foldl_looks n ps]
    omega
theorem sum_looks (n : Nat) : ∀ ps : List Kp318.Plan, (ps.map fun p => (p.weight : Int) * (Kp318.size n p.set : Int)).sum = (looksOf n ps : Int)
  | [] => rfl
  | p :: ps => by
    have e : looksOf n (p :: ps) = p.weight * Kp318.size n p.set + looksOf n ps := by
      show ps.foldl _ (0 + p.weight * Kp318.size n p.set) = _
      rw [foldl_looks n ps]
      omega
    rw [List.map_cons, List.sum_cons, sum_looks n ps, e]
    push_cast
    rfl
noncomputable def mostOf (n : Nat) (ps : List Kp318.Plan) : Nat := ps.foldl (fun (m : Nat) (p : Kp318.Plan) => max m (Kp318.size n p.set)) 0
theorem most_ge (n : Nat) : ∀ (ps : List Kp318.Plan) (c : Nat), c ≤ ps.foldl (fun (m : Nat) (p : Kp318.Plan) => max m (Kp318.size n p.set)) c ∧ ∀ p ∈ ps, Kp318.size n p.set ≤ ps.foldl (fun (m : Nat) (p : Kp318.Plan) => max m (Kp318.size n p.set)) c
  | [], c => ⟨Nat.le_refl _, fun p h => nomatch h⟩
  | q :: ps, c => by
    obtain ⟨h1, h2⟩ := most_ge n ps (max c (Kp318.size n q.set))
    rw [List.foldl_cons]
    refine ⟨by omega, fun p h => ?_⟩
    rcases List.mem_cons.mp h with z | z
    · rw [z]
      omega
    · exact h2 p z
theorem most_at (n : Nat) : ∀ (ps : List Kp318.Plan) (c : Nat), ps.foldl (fun (m : Nat) (p : Kp318.Plan) => max m (Kp318.size n p.set)) c = c ∨ ∃ p ∈ ps, ps.foldl (fun (m : Nat) (p : Kp318.Plan) => max m (Kp318.size n p.set)) c = Kp318.size n p.set
  | [], c => .inl rfl
  | q :: ps, c => by
    rw [List.foldl_cons]
    rcases most_at n ps (max c (Kp318.size n q.set)) with z | ⟨p, hp, z⟩
    · rw [z]
      by_cases h : Kp318.size n q.set ≤ c
      · exact .inl (by omega)
      · exact .inr ⟨q, List.mem_cons_self .., by omega⟩
    · exact .inr ⟨p, List.mem_cons_of_mem _ hp, z⟩
theorem most_is {n : Nat} {ps : List Kp318.Plan} {m : Int} (hm : m ∈ ps.map fun p => (Kp318.size n p.set : Int)) (hu : ∀ y, y ∈ (ps.map fun p => (Kp318.size n p.set : Int)) → y ≤ m) : m = (mostOf n ps : Int) := by
  obtain ⟨p, hp, e⟩ := List.mem_map.mp hm
  have h1 := (most_ge n ps 0).2 p hp
  have h1' : Kp318.size n p.set ≤ mostOf n ps := h1
  rcases most_at n ps 0 with z | ⟨q, hq, z⟩
  · have z' : mostOf n ps = 0 := z
    omega
  · have z' : mostOf n ps = Kp318.size n q.set := z
    have h2 := hu _ (List.mem_map.mpr ⟨q, hq, rfl⟩)
    omega
theorem most_le (n : Nat) (ps : List Kp318.Plan) : mostOf n ps ≤ n := by
  rcases most_at n ps 0 with z | ⟨q, hq, z⟩
  · have z' : mostOf n ps = 0 := z
    omega
  · have z' : mostOf n ps = Kp318.size n q.set := z
    have := Mth.size_le n q.set
    omega
theorem fair_len {n : Nat} (m b : Nat) (hn : n ≤ 6) : (Kp318.fair n m b).length ≤ 1000 := by
  rw [fair_length]
  exact Nat.le_trans (sets_length m hn) (by decide)
theorem fair_sum {n m b : Nat} (hn : n ≤ 6) (hm : m ≤ n) (h1 : 1 ≤ b) (h9 : b ≤ 9) : 0 < Kp318.total (Kp318.fair n m b) ∧ Kp318.total (Kp318.fair n m b) ≤ 1000000000 ∧ Kp318.total (Kp318.fair n m b) < 2 ^ 64 := by
  have ne : Kp318.fair n m b ≠ [] := fun z => by
    have q := Mth.fair_ne n m b
    rw [z] at q
    cases q
  have t0 := total_pos ne fun p q => (fair_mem hn hm h1 h9 q).2.1
  have t1 := total_le fun p q => (fair_mem hn hm h1 h9 q).2.2
  have l := fair_len m b hn
  omega
section
variable {P : Program} {w : World} {K : PySem.W.Frag} {mg : Str → Option Value} {base : Heap} {f : Addr} {fd : FuncData}
variable {C G fI fB fD fWt fP fL fR fW fT : Addr} {fdI fdB fdD fdWt fdP fdL fdR fdW fdT : FuncData}
/-! ### mean -/
theorem scMean : FnScope ["lots", "looks", "plan"] ["lots"] (defScope (top 45)) := ⟨rfl, rfl, rfl, by decide +kernel, rfl, by decide +kernel, by decide +kernel⟩
theorem ok_mean {fS : Addr} {fdS : FuncData} (F : Fun K "tell_mean" "tell_mean" (top 45) f fd) (ms : mg "sum" = none) (Sz : Cal P w K mg base 1 "size" ["days_of_set"] spSize fS fdS) (X : Kit P w K mg base C G fI fB fD fWt fP fL fR fW fT fdI fdB fdD fdWt fdP fdL fdR fdW fdT) : FnOk P w K mg base CX0 18 f fd ["lots"] (sp0 C true .mean) := by
  refine F.ok scMean (fun vs H Q E h => ?_) (fun cdv A outer s0 H vs Q E hr h => ?_)
  · exact h.len
  · refine h.elim fun a pl u ev L need D => ?_
    subst ev
    have hr1 : Room 1 _ := hr.mono (by decide)
    have hr2 : Room 2 _ := hr.mono (by decide)
    have hr3 : Room 3 _ := hr.mono (by decide)
    obtain ⟨dx, ho⟩ := L.w_obj
    have hP := L.w_pls
    obtain ⟨rs, hl, pr⟩ := L.w_pls
    have wk := L.w_ok
    have hn := need rfl
    obtain ⟨t0, t1⟩ := wk.sum hn
    have l10 := wk.len
    have e : Kp318.step (some u) .mean = (some u, Kp318.part u ((looksOf u.days u.plans : Nat) : Int)) := by
      show (if u.plans.isEmpty = true then _ else _) = _
      rw [if_neg (isE hn)]
      rfl
    refine ⟨_, pss_cons (ps_set (i := 1) scMean.nd rfl (Or.inl rfl) (pe_callB (cr_sum rfl) rfl ms PyProof.Rows.boot_sum (pa_cons (pe_lc (own := [("plan", 2)]) rfl scMean.nd (pi_list (pe_fld (pv 0) rfl)) (show BlkOk ["lots", "looks", "plan"] (defScope (top 45)) _ _ from blkOk_by (by decide +kernel))
        (fun _ _ _ _ _ => pg_name (i := 2) scMean.nd rfl (Or.inl rfl))
        (fun _ _ _ _ _ => pts_nil)
        (fun _ _ _ _ _ => pe_op op_mul (pe_ix (r := rIxT K) ix_tup (pv 2) pe_int (fun _ _ => rfl)) (pe_call Sz.ok hr1 rfl Sz.mg Sz.kp Sz.bd .nil pass0 (pa_cons (pe_ix (r := rIxT K) ix_tup (pv 2) pe_int (fun _ _ => rfl)) pa_nil)))) pa_nil)))
      (pss_one (ps_ret (pe_call X.Tf.ok hr3 rfl X.Tf.mg X.Tf.kp X.Tf.bd .nil pass0 (pa_cons (pv 1) (pa_cons (pe_call X.Wt.ok hr2 rfl X.Wt.mg X.Wt.kp X.Wt.bd .nil pass0 (pa_cons (pe_fld (pv 0) rfl) pa_nil)) pa_nil))))), ?_⟩
    refine seq_open fun U hU => ?_
    refine ⟨_, rfl, a, C, dx, _, _, rfl, ho, X.T.cl, X.T.nP, lf_plans _ _ _ _ _, pl, rfl, ⟨_, SqL.of hl⟩, fun Dd hD => ?_⟩
    refine lc_list (K := K) (a := pl) (xs := rs.map V.ref) (fun i H' => Same H H' ∧ H' Dd = some (.lst (((u.plans.take i).map fun p => (p.weight : Int) * (Kp318.size u.days p.set : Int)).map V.int))) ⟨same_new hD _, upd_same⟩ (fun i H' _ z => z.1.seq (SqL.of hl)) ?_ ?_
    · rintro i x H' hi ⟨sm, hacc⟩
      obtain ⟨r, hr', rfl⟩ := ref_at hi
      obtain ⟨p, hp, tp⟩ := paired_get pr hr'
      have pk := wk.pls p (List.mem_of_getElem? hp)
      refine ⟨rfl, yes_if ?_⟩
      refine ⟨_, rfl, r, _, _, _, rfl, rfl, SqT.of (sm _ _ tp), rfl, _, rfl, r, _, _, _, rfl, rfl, SqT.of (sm _ _ tp), rfl, p.set, u.days, rfl, pk.1, _, _, rfl, rfl, mul_l (Nat.le_trans pk.2.2 (by decide)), _, hacc, ?_, fun b o zz => ?_, ?_⟩
      · rw [List.length_map, List.length_map, List.length_take]
        exact small1000 (by omega)
      · rw [upd_ne (ne_of_none zz hD)]
        exact sm _ _ zz
      · rw [upd_same, take_snoc hp, List.map_append, List.map_append]
        rfl
    · rintro H' ⟨sm, hacc⟩
      refine ⟨Dd, _, rfl, SqL.of hacc, ?_⟩
      have es : ((u.plans.take (rs.map V.ref).length).map fun p => (p.weight : Int) * (Kp318.size u.days p.set : Int)).sum = (looksOf u.days u.plans : Int) := by
        rw [List.length_map, Paired.length pr, List.take_length, sum_looks]
      rw [es]
      subst hU
      refine ⟨_, rfl, r_fld rfl (sm _ _ ho) X.T.cl X.T.nP (lf_plans _ _ _ _ _) ⟨pl, u.plans, rfl, hP.same sm, wk.l1000, fun H2 s2 => ?_⟩⟩
      refine ⟨_, _, rfl, t0, t1, fun H3 r s3 hr3 hl3 => ?_⟩
      have s02 : Same H H2 := sm.trans s2
      exact (D.as e).same L (s02.trans s3) (s02.free hr3) hl3
/-! ### most -/
noncomputable def spMostL : Sp := fun vs H Q _ => ∃ (l : Addr) (n : Nat) (ps : List Kp318.Plan), vs = [.ref l] ∧ PL H l ps ∧ ps.length ≤ 1000 ∧ ps ≠ [] ∧ (∀ p ∈ ps, p.set < 2 ^ n) ∧ ∀ H' : Hp, Same H H' → Q (.int (mostOf n ps : Int)) H'
theorem scML : FnScope ["plans", "plan"] ["plans"] (defScope (top 46)) := ⟨rfl, rfl, rfl, by decide +kernel, rfl, by decide +kernel, by decide +kernel⟩
theorem ok_mostL {fS : Addr} {fdS : FuncData} (F : Fun K "most_looks" "most_looks" (top 46) f fd) (mm : mg "max" = none) (Sz : Cal P w K mg base 1 "size" ["days_of_set"] spSize fS fdS) : FnOk P w K mg base CX0 2 f fd ["plans"] spMostL := by
  refine F.ok scML (fun vs H Q E h => ?_) (fun cdv A outer s0 H vs Q E hr h => ?_)
  · obtain ⟨l, n, ps, rfl, _⟩ := h
    rfl
  · obtain ⟨l, n, ps, rfl, ⟨rs, hl, pr⟩, len, ne, hset, q⟩ := h
    refine ⟨_, pss_one (ps_ret (pe_callB (cr_max rfl) rfl mm PyProof.Rows.boot_max (pa_cons (pe_lc (own := [("plan", 1)]) rfl scML.nd (pi_list (pv 0)) (show BlkOk ["plans", "plan"] (defScope (top 46)) _ _ from blkOk_by (by decide +kernel))
      (fun _ _ _ _ _ => pg_name (i := 1) scML.nd rfl (Or.inl rfl))
      (fun _ _ _ _ _ => pts_nil)
      (fun _ _ _ _ _ => pe_call Sz.ok hr rfl Sz.mg Sz.kp Sz.bd .nil pass0 (pa_cons (pe_ix (r := rIxT K) ix_tup (pv 1) pe_int (fun _ _ => rfl)) pa_nil))) pa_nil))), ?_⟩
    refine ⟨_, rfl, l, rfl, ⟨_, SqL.of hl⟩, fun D hD => ?_⟩
    refine lc_list (K := K) (a := l) (xs := rs.map V.ref) (fun i H' => Same H H' ∧ H' D = some (.lst (((ps.take i).map fun p => (Kp318.size n p.set : Int)).map V.int))) ⟨same_new hD _, upd_same⟩ (fun i H' _ z => z.1.seq (SqL.of hl)) ?_ ?_
    · rintro i x H' hi ⟨sm, hacc⟩
      obtain ⟨r, hr', rfl⟩ := ref_at hi
      obtain ⟨p, hp, tp⟩ := paired_get pr hr'
      refine ⟨rfl, yes_if ?_⟩
      refine ⟨_, rfl, r, _, _, _, rfl, rfl, SqT.of (sm _ _ tp), rfl, p.set, n, rfl, hset p (List.mem_of_getElem? hp), _, hacc, ?_, fun b o zz => ?_, ?_⟩
      · rw [List.length_map, List.length_map, List.length_take]
        exact small1000 (by omega)
      · rw [upd_ne (ne_of_none zz hD)]
        exact sm _ _ zz
      · rw [upd_same, take_snoc hp, List.map_append, List.map_append]
        rfl
    · rintro H' ⟨sm, hacc⟩
      have et : ps.take (rs.map V.ref).length = ps := by rw [List.length_map, Paired.length pr, List.take_length]
      rw [et] at hacc
      refine ⟨D, _, rfl, SqL.of hacc, ?_, fun m hm hu => ?_⟩
      · rw [List.length_map]
        exact List.length_pos_iff.mpr ne
      · rw [most_is hm hu]
        exact q H' sm
theorem scMost : FnScope ["lots"] ["lots"] (defScope (top 47)) := ⟨rfl, rfl, rfl, by decide +kernel, rfl, by decide +kernel, by decide +kernel⟩
theorem ok_most {fM : Addr} {fdM : FuncData} (F : Fun K "tell_most" "tell_most" (top 47) f fd) (Ml : Cal P w K mg base 2 "most_looks" ["plans"] spMostL fM fdM) (X : Kit P w K mg base C G fI fB fD fWt fP fL fR fW fT fdI fdB fdD fdWt fdP fdL fdR fdW fdT) : FnOk P w K mg base CX0 18 f fd ["lots"] (sp0 C true .most) := by
  refine F.ok scMost (fun vs H Q E h => ?_) (fun cdv A outer s0 H vs Q E hr h => ?_)
  · exact h.len
  · refine h.elim fun a pl u ev L need D => ?_
    subst ev
    have hr2 : Room 2 _ := hr.mono (by decide)
    obtain ⟨dx, ho⟩ := L.w_obj
    have hP := L.w_pls
    have wk := L.w_ok
    have hn := need rfl
    have l10 := wk.len
    have e : Kp318.step (some u) .most = (some u, Kp318.say ((mostOf u.days u.plans : Nat) : Int)) := by
      show (if u.plans.isEmpty = true then _ else _) = _
      rw [if_neg (isE hn)]
      rfl
    refine ⟨_, pss_one (ps_ret (pe_lst (pa_cons (pe_call Ml.ok hr2 rfl Ml.mg Ml.kp Ml.bd .nil pass0 (pa_cons (pe_fld (pv 0) rfl) pa_nil)) pa_nil))), ?_⟩
    refine r_fld rfl (ho) X.T.cl X.T.nP (lf_plans _ _ _ _ _) ⟨pl, u.days, u.plans, rfl, hP, wk.l1000, hn, fun p q => (wk.pls p q).1, fun H1 s1 => ?_⟩
    exact ⟨by show 1 ≤ sizeLine; decide, fun r hr' => (D.as e).one L s1 hr'⟩
/-! ### worth -/
theorem scWorth : FnScope ["lots", "looks", "plans"] ["lots", "looks"] (defScope (top 48)) := ⟨rfl, rfl, rfl, by decide +kernel, rfl, by decide +kernel, by decide +kernel⟩
theorem ok_worth {fBP fG : Addr} {fdBP fdG : FuncData} (F : Fun K "tell_worth" "tell_worth" (top 48) f fd) (cR : IsC mg "OUT_OF_RANGE" (-22)) (BP : Cal P w K mg base 3 "best_plan" ["days", "looks", "fine"] spBestPlan fBP fdBP) (Gn : Cal P w K mg base 17 "best_gain" ["lots", "plans"] (spGain C) fG fdG)
    (X : Kit P w K mg base C G fI fB fD fWt fP fL fR fW fT fdI fdB fdD fdWt fdP fdL fdR fdW fdT) : FnOk P w K mg base CX0 18 f fd ["lots", "looks"] (sp1 C false .worth) := by
  refine F.ok scWorth (fun vs H Q E h => ?_) (fun cdv A outer s0 H vs Q E hr h => ?_)
  · exact h.len
  · refine h.elim fun a pl u x ev L _ D => ?_
    subst ev
    have hr2 : Room 2 _ := hr.mono (by decide)
    have hr3 : Room 3 _ := hr.mono (by decide)
    obtain ⟨dx, ho⟩ := L.w_obj
    have wk := L.w_ok
    have d6 := wk.d6
    have b1 := wk.b1
    have b9 := wk.b9
    refine ⟨_, pss_cons (ps_if (pt_cmpR op_gt (pv 1) (pe_fld (pv 0) rfl) (nomark _)) (pss_one (ps_ret (pe_lst (pa_cons (pe_const rfl cR) pa_nil)))) pss_nil)
      (pss_cons (ps_set (i := 2) scWorth.nd rfl (Or.inl rfl) (pe_call BP.ok hr3 rfl BP.mg BP.kp BP.bd .nil pass0 (pa_cons (pe_fld (pv 0) rfl) (pa_cons (pv 1) (pa_cons (pe_fld (pv 0) rfl) pa_nil)))))
      (pss_one (ps_ret (pe_call X.Tf.ok hr3 rfl X.Tf.mg X.Tf.kp X.Tf.bd .nil pass0 (pa_cons (pe_call Gn.ok hr rfl Gn.mg Gn.kp Gn.bd .nil pass0 (pa_cons (pv 0) (pa_cons (pv 2) pa_nil)))
        (pa_cons (pe_call X.Wt.ok hr2 rfl X.Wt.mg X.Wt.kp X.Wt.bd .nil pass0 (pa_cons (pv 2) pa_nil)) pa_nil)))))), ?_⟩
    refine seq_open fun U hU => ?_
    refine r_cmpVF rfl rfl ho X.T.cl X.T.nD (lf_days _ _ _ _ _) ?_
    refine ite2 (fun c1 => ?_) (fun c1 => ?_)
    · have c2 : ((u.days : Nat) : Int) < (x : Int) := of_decide_eq_true c1
      have e : Kp318.step (some u) (.worth x) = (some u, Kp318.say (-22)) := by
        show (some u, if u.days < x then _ else _) = _
        rw [if_pos (lt_of_int c2)]
      exact ⟨by decide, fun r hr' => (D.as e).one L (Same.refl H) hr'⟩
    have c2 : ¬ ((u.days : Nat) : Int) < (x : Int) := of_decide_eq_false (Bool.eq_false_iff.mpr c1)
    have hx : x ≤ u.days := not_lt_int c2
    have e : Kp318.step (some u) (.worth x) = (some u, Kp318.tell (Kp317.red (Kp318.replyUp u.fine u.days 0 (Kp318.fair u.days x u.fine) u.misdeeds) (Kp318.total (Kp318.fair u.days x u.fine)))) := by
      show (some u, if u.days < x then _ else _) = _
      rw [if_neg (Nat.not_lt.mpr hx), Mth.worth_eq]
    obtain ⟨f0, f1, f2⟩ := fair_sum d6 hx b1 b9
    have fl := fair_len x u.fine d6
    subst hU
    refine seq_openN fun U hU => ?_
    refine r_bp rfl rfl (ho) X.T.cl X.T.nD X.T.nF (lf_days _ _ _ _ _) (lf_fine _ _ _ _ _) (d6) (Nat.le_trans hx wk.d1000) (wk.f1000) fun H1 p1 s1 hp1 hl1 => ?_
    subst hU
    refine ⟨_, rfl, _, rfl, a, pl, p1, u, _, rfl, L.same s1, hl1, fl, fun H2 s2 => ?_⟩
    refine ⟨_, rfl, p1, _, rfl, hl1.same s2, fl, fun H3 s3 => ?_⟩
    refine ⟨_, _, rfl, f0, f2, fun H4 r s4 hr4 hl4 => ?_⟩
    have s03 : Same H H3 := (s1.trans s2).trans s3
    exact (D.as e).same L (s03.trans s4) (s03.free hr4) hl4
/-! ### over -/
theorem scOver : FnScope ["lots", "plans", "weight", "best_weight", "more"] ["lots"] (defScope (top 49)) := ⟨rfl, rfl, rfl, by decide +kernel, rfl, by decide +kernel, by decide +kernel⟩
theorem ok_over {fBP fG fM : Addr} {fdBP fdG fdM : FuncData} (F : Fun K "tell_over" "tell_over" (top 49) f fd) (BP : Cal P w K mg base 3 "best_plan" ["days", "looks", "fine"] spBestPlan fBP fdBP) (Gn : Cal P w K mg base 17 "best_gain" ["lots", "plans"] (spGain C) fG fdG) (Ml : Cal P w K mg base 2 "most_looks" ["plans"] spMostL fM fdM)
    (X : Kit P w K mg base C G fI fB fD fWt fP fL fR fW fT fdI fdB fdD fdWt fdP fdL fdR fdW fdT) : FnOk P w K mg base CX0 18 f fd ["lots"] (sp0 C true .over) := by
  refine F.ok scOver (fun vs H Q E h => ?_) (fun cdv A outer s0 H vs Q E hr h => ?_)
  · exact h.len
  · refine h.elim fun a pl u ev L need D => ?_
    subst ev
    have hr2 : Room 2 _ := hr.mono (by decide)
    have hr3 : Room 3 _ := hr.mono (by decide)
    obtain ⟨dx, ho⟩ := L.w_obj
    have hP := L.w_pls
    have wk := L.w_ok
    have hn := need rfl
    obtain ⟨t0, _⟩ := wk.sum hn
    have t1 := total_le fun p q => (wk.pls p q).2.2
    have d6 := wk.d6
    have b1 := wk.b1
    have b9 := wk.b9
    have l10 := wk.len
    have mle := most_le u.days u.plans
    obtain ⟨f0, f1, f2⟩ := fair_sum d6 mle b1 b9
    have fl := fair_len (mostOf u.days u.plans) u.fine d6
    have e : Kp318.step (some u) .over = (some u, Kp318.tell (Kp317.red (Kp318.replyUp u.fine u.days 0 u.plans u.misdeeds * (Kp318.total (Kp318.fair u.days (mostOf u.days u.plans) u.fine) : Int)
        - Kp318.replyUp u.fine u.days 0 (Kp318.fair u.days (mostOf u.days u.plans) u.fine) u.misdeeds * (Kp318.total u.plans : Int)) (Kp318.total u.plans * Kp318.total (Kp318.fair u.days (mostOf u.days u.plans) u.fine)))) := by
      show (if u.plans.isEmpty = true then _ else _) = _
      rw [if_neg (isE hn), ← Mth.sub_red _ _ t0 f0, ← Mth.worth_eq]
      rfl
    refine ⟨_, pss_cons (ps_set (i := 1) scOver.nd rfl (Or.inl rfl) (pe_call BP.ok hr3 rfl BP.mg BP.kp BP.bd .nil pass0 (pa_cons (pe_fld (pv 0) rfl) (pa_cons (pe_call Ml.ok hr2 rfl Ml.mg Ml.kp Ml.bd .nil pass0 (pa_cons (pe_fld (pv 0) rfl) pa_nil)) (pa_cons (pe_fld (pv 0) rfl) pa_nil)))))
      (pss_cons (ps_set (i := 2) scOver.nd rfl (Or.inl rfl) (pe_call X.Wt.ok hr2 rfl X.Wt.mg X.Wt.kp X.Wt.bd .nil pass0 (pa_cons (pe_fld (pv 0) rfl) pa_nil)))
      (pss_cons (ps_set (i := 3) scOver.nd rfl (Or.inl rfl) (pe_call X.Wt.ok hr2 rfl X.Wt.mg X.Wt.kp X.Wt.bd .nil pass0 (pa_cons (pv 1) pa_nil)))
      (pss_cons (ps_set (i := 4) scOver.nd rfl (Or.inl rfl) (pe_op op_sub (pe_op op_mul (pe_call Gn.ok hr rfl Gn.mg Gn.kp Gn.bd .nil pass0 (pa_cons (pv 0) (pa_cons (pe_fld (pv 0) rfl) pa_nil))) (pv 3)) (pe_op op_mul (pe_call Gn.ok hr rfl Gn.mg Gn.kp Gn.bd .nil pass0 (pa_cons (pv 0) (pa_cons (pv 1) pa_nil))) (pv 2))))
      (pss_one (ps_ret (pe_call X.Tf.ok hr3 rfl X.Tf.mg X.Tf.kp X.Tf.bd .nil pass0 (pa_cons (pv 4) (pa_cons (pe_op op_mul (pv 2) (pv 3)) pa_nil)))))))), ?_⟩
    refine seq_open fun U hU => ?_
    refine ⟨_, rfl, a, C, dx, _, _, rfl, ho, X.T.cl, X.T.nD, lf_days _ _ _ _ _, _, rfl, a, C, dx, _, _, rfl, ho, X.T.cl, X.T.nP, lf_plans _ _ _ _ _, pl, u.days, u.plans, rfl, hP, wk.l1000, hn, fun p q => (wk.pls p q).1, fun H1 s1 => ?_⟩
    refine r_fld rfl (s1 _ _ ho) X.T.cl X.T.nF (lf_fine _ _ _ _ _) ⟨u.days, mostOf u.days u.plans, u.fine, rfl, d6, Nat.le_trans mle wk.d1000, wk.f1000, fun H2 p2 s2 hp2 hl2 => ?_⟩
    have s02 : Same H H2 := s1.trans s2
    generalize Kp318.fair u.days (mostOf u.days u.plans) u.fine = fr at *
    have t2 : Kp318.total u.plans ≤ 1000000000 := by omega
    subst hU
    refine seq_openN fun U hU => ?_
    refine r_wtF rfl (s02 _ _ ho) X.T.cl X.T.nP (lf_plans _ _ _ _ _) (hP.same s02) wk.l1000 fun H3 s3 => ?_
    subst hU
    refine seq_openN fun U hU => ?_
    refine ⟨_, rfl, p2, fr, rfl, hl2.same s3, fl, fun H4 s4 => ?_⟩
    have s04 : Same H H4 := (s02.trans s3).trans s4
    subst hU
    refine seq_openN fun U hU => ?_
    refine ⟨_, rfl, r_fld rfl (s04 _ _ ho) X.T.cl X.T.nP (lf_plans _ _ _ _ _) ⟨a, pl, pl, u, u.plans, rfl, L.same s04, hP.same s04, wk.l1000, fun H5 s5 => ?_⟩⟩
    have s05 : Same H H5 := s04.trans s5
    refine ⟨_, rfl, _, _, rfl, rfl, mul_r f1, ?_⟩
    refine ⟨_, rfl, _, rfl, a, pl, p2, u, fr, rfl, L.same s05, hl2.same ((s3.trans s4).trans s5), fl, fun H6 s6 => ?_⟩
    refine ⟨_, rfl, _, _, rfl, rfl, mul_r t2, _, _, rfl, rfl, ?_⟩
    subst hU
    refine ⟨_, rfl, _, rfl, _, rfl, _, _, rfl, rfl, mul_l t2, ?_⟩
    have pos : 0 < Kp318.total u.plans * Kp318.total fr := Nat.mul_pos t0 f0
    have big : Kp318.total u.plans * Kp318.total fr ≤ 1000000000 * 1000000000 := Nat.mul_le_mul t2 f1
    refine ⟨Kp318.replyUp u.fine u.days 0 u.plans u.misdeeds * (Kp318.total fr : Int) - Kp318.replyUp u.fine u.days 0 fr u.misdeeds * (Kp318.total u.plans : Int), Kp318.total u.plans * Kp318.total fr, ?_, pos, Nat.lt_of_le_of_lt big (by decide), fun H7 r s7 hr7 hl7 => ?_⟩
    · rw [Int.natCast_mul]
      rfl
    have s06 : Same H H6 := s05.trans s6
    exact (D.as e).same L (s06.trans s7) (s06.free hr7) hl7
/-! ### bestchance, bestlooked -/
theorem scChance : FnScope ["lots", "looks", "days_of_set", "plans", "drawn", "plan"] ["lots", "looks", "days_of_set"] (defScope (top 50)) := ⟨rfl, rfl, rfl, by decide +kernel, rfl, by decide +kernel, by decide +kernel⟩
theorem ok_chance {fBP fF : Addr} {fdBP fdF : FuncData} (F : Fun K "tell_best_chance" "tell_best_chance" (top 50) f fd) (cR : IsC mg "OUT_OF_RANGE" (-22)) (BP : Cal P w K mg base 3 "best_plan" ["days", "looks", "fine"] spBestPlan fBP fdBP) (Ft : Cal P w K mg base 1 "fits" ["days_of_set", "days"] spFits fF fdF)
    (X : Kit P w K mg base C G fI fB fD fWt fP fL fR fW fT fdI fdB fdD fdWt fdP fdL fdR fdW fdT) : FnOk P w K mg base CX0 18 f fd ["lots", "looks", "days_of_set"] (sp2 C false .bestChance) := by
  refine F.ok scChance (fun vs H Q E h => ?_) (fun cdv A outer s0 H vs Q E hr h => ?_)
  · exact h.len
  · refine h.elim fun a pl u x y ev L _ D => ?_
    subst ev
    have hr1 : Room 1 _ := hr.mono (by decide)
    have hr2 : Room 2 _ := hr.mono (by decide)
    have hr3 : Room 3 _ := hr.mono (by decide)
    obtain ⟨dx, ho⟩ := L.w_obj
    have wk := L.w_ok
    have d6 := wk.d6
    have b1 := wk.b1
    have b9 := wk.b9
    have bad : (u.days < x ∨ 2 ^ u.days ≤ y) → 1 ≤ sizeLine ∧ ∀ r, H r = none → Q (.ref r) (upd H r (.lst [.int (-22)])) := fun c => by
      have e : Kp318.step (some u) (.bestChance x y) = (some u, Kp318.say (-22)) := by
        show (some u, if u.days < x ∨ 2 ^ u.days ≤ y then _ else _) = _
        rw [if_pos c]
      exact ⟨by decide, fun r hr' => (D.as e).one L (Same.refl H) hr'⟩
    refine ⟨_, pss_cons (ps_if (PW.pt (pw_or (pt_cmpR op_gt (pv 1) (pe_fld (pv 0) rfl) (nomark _)) (pw_or1 (pt_not (pt_val (pe_call Ft.ok hr1 rfl Ft.mg Ft.kp Ft.bd .nil pass0 (pa_cons (pv 2) (pa_cons (pe_fld (pv 0) rfl) pa_nil)))))))) (pss_one (ps_ret (pe_lst (pa_cons (pe_const rfl cR) pa_nil)))) pss_nil)
      (pss_cons (ps_set (i := 3) scChance.nd rfl (Or.inl rfl) (pe_call BP.ok hr3 rfl BP.mg BP.kp BP.bd .nil pass0 (pa_cons (pe_fld (pv 0) rfl) (pa_cons (pv 1) (pa_cons (pe_fld (pv 0) rfl) pa_nil)))))
      (pss_cons (ps_setLc (i := 4) (own := [("plan", 5)]) rfl scChance.nd rfl rfl (sw_true rfl rfl rfl rfl) (pi_list (pv 3)) (show BlkOk ["lots", "looks", "days_of_set", "plans", "drawn", "plan"] (defScope (top 50)) _ _ from blkOk_by (by decide +kernel))
        (fun _ _ _ _ _ => pg_name (i := 5) scChance.nd rfl (Or.inl rfl))
        (fun _ _ _ _ _ => pts_one (pt_cmpR op_eq (pe_ix (r := rIxT K) ix_tup (pv 5) pe_int (fun _ _ => rfl)) (pv 2) (nomark _)))
        (fun _ _ _ _ _ => pv 5))
      (pss_one (ps_ret (pe_call X.Tf.ok hr3 rfl X.Tf.mg X.Tf.kp X.Tf.bd .nil pass0 (pa_cons (pe_call X.Wt.ok hr2 rfl X.Wt.mg X.Wt.kp X.Wt.bd .nil pass0 (pa_cons (pv 4) pa_nil))
        (pa_cons (pe_call X.Wt.ok hr2 rfl X.Wt.mg X.Wt.kp X.Wt.bd .nil pass0 (pa_cons (pv 3) pa_nil)) pa_nil))))))), ?_⟩
    refine seq_open fun U hU => ?_
    refine r_cmpVF rfl rfl ho X.T.cl X.T.nD (lf_days _ _ _ _ _) ?_
    refine ite2 (fun c1 => iteT ?_) (fun c1 => ?_)
    · have c2 : ((u.days : Nat) : Int) < (x : Int) := of_decide_eq_true c1
      exact bad (.inl (lt_of_int c2))
    have c2 : ¬ ((u.days : Nat) : Int) < (x : Int) := of_decide_eq_false (Bool.eq_false_iff.mpr c1)
    refine ⟨_, rfl, r_fld rfl (ho) X.T.cl X.T.nD (lf_days _ _ _ _ _) ⟨y, u.days, rfl, _, rfl, ?_⟩⟩
    refine ite2 (fun c3 => ?_) (fun c3 => ?_)
    · have c4 := of_decide_eq_false (not_t c3)
      exact bad (.inr (Nat.not_lt.mp c4))
    have c4 : y < 2 ^ u.days := of_decide_eq_true (not_f c3)
    have hx : x ≤ u.days := not_lt_int c2
    have nb : ¬ (u.days < x ∨ 2 ^ u.days ≤ y) := fun q => by
      rcases q with q | q <;> omega
    have e : Kp318.step (some u) (.bestChance x y) = (some u, Kp318.tell (Kp317.red ((Kp318.total ((Kp318.fair u.days x u.fine).filter fun p => p.set == y) : Nat) : Int) (Kp318.total (Kp318.fair u.days x u.fine)))) := by
      show (some u, if u.days < x ∨ 2 ^ u.days ≤ y then _ else _) = _
      rw [if_neg nb, Mth.chance_eq x u.fine c4, Mth.total_fair]
      by_cases hs : Kp318.size u.days y ≤ x
      · rw [if_pos hs, if_pos hs]
      · rw [if_neg hs, if_neg hs]
        rfl
    obtain ⟨f0, f1, f2⟩ := fair_sum d6 hx b1 b9
    have fl := fair_len x u.fine d6
    subst hU
    refine seq_openN fun U hU => ?_
    refine r_bp rfl rfl (ho) X.T.cl X.T.nD X.T.nF (lf_days _ _ _ _ _) (lf_fine _ _ _ _ _) (d6) (Nat.le_trans hx wk.d1000) (wk.f1000) fun H1 p1 s1 hp1 hl1 => ?_
    generalize Kp318.fair u.days x u.fine = fr at *
    obtain ⟨rs, hl, pr⟩ := id hl1
    subst hU
    refine seq_openN fun U hU => ?_
    refine ⟨_, rfl, p1, rfl, ⟨_, SqL.of hl⟩, fun Dd hD => ?_⟩
    refine lc_list (K := K) (a := p1) (xs := rs.map V.ref) (Filt H1 Dd fr fun p => p.set == y) (Filt.start hD) (fun i H' _ z => z.same.seq (SqL.of hl)) ?_ ?_
    · rintro i v H' hi F'
      obtain ⟨r, hr', rfl⟩ := ref_at hi
      obtain ⟨p, hp, tp⟩ := paired_get pr hr'
      refine ⟨rfl, _, rfl, r, _, _, _, rfl, rfl, SqT.of (F'.same _ _ tp), rfl, _, rfl, rfl, _, rfl, ?_⟩
      refine ite2 (fun c => ?_) (fun c => ?_)
      · have c' : V.int (p.set : Int) = V.int (y : Int) := of_decide_eq_true c
        have c5 : p.set = y := int_eq c'
        exact ⟨_, rfl, F'.push hD fl hp tp (beq_iff_eq.mpr c5)⟩
      · have c' : ¬ V.int (p.set : Int) = V.int (y : Int) := of_decide_eq_false (Bool.eq_false_iff.mpr c)
        have c5 : ¬ p.set = y := fun q => c' (by rw [q])
        exact F'.skip hp (beq_eq_false_iff_ne.mpr c5)
    · intro H' F'
      have hF := F'.done (by rw [List.length_map, Paired.length pr])
      have s2 := F'.same
      subst hU
      refine ⟨_, rfl, Dd, _, rfl, hF, len_part _ fl, fun H3 s3 => ?_⟩
      refine ⟨_, rfl, p1, fr, rfl, hl1.same (s2.trans s3), fl, fun H4 s4 => ?_⟩
      refine ⟨_, _, rfl, f0, f2, fun H5 r s5 hr5 hl5 => ?_⟩
      have s04 : Same H H4 := ((s1.trans s2).trans s3).trans s4
      exact (D.as e).same L (s04.trans s5) (s04.free hr5) hl5
theorem scBL : FnScope ["lots", "looks", "plans"] ["lots", "looks"] (defScope (top 51)) := ⟨rfl, rfl, rfl, by decide +kernel, rfl, by decide +kernel, by decide +kernel⟩
theorem ok_bestLooked {fBP : Addr} {fdBP : FuncData} (F : Fun K "tell_best_looked" "tell_best_looked" (top 51) f fd) (cR : IsC mg "OUT_OF_RANGE" (-22)) (BP : Cal P w K mg base 3 "best_plan" ["days", "looks", "fine"] spBestPlan fBP fdBP)
    (X : Kit P w K mg base C G fI fB fD fWt fP fL fR fW fT fdI fdB fdD fdWt fdP fdL fdR fdW fdT) : FnOk P w K mg base CX0 18 f fd ["lots", "looks"] (sp1 C false .bestLooked) := by
  refine F.ok scBL (fun vs H Q E h => ?_) (fun cdv A outer s0 H vs Q E hr h => ?_)
  · exact h.len
  · refine h.elim fun a pl u x ev L _ D => ?_
    subst ev
    have hr2 : Room 2 _ := hr.mono (by decide)
    have hr3 : Room 3 _ := hr.mono (by decide)
    obtain ⟨dx, ho⟩ := L.w_obj
    have wk := L.w_ok
    have d1 := wk.d1
    have d6 := wk.d6
    have b1 := wk.b1
    have b9 := wk.b9
    refine ⟨_, pss_cons (ps_if (pt_cmpR op_gt (pv 1) (pe_fld (pv 0) rfl) (nomark _)) (pss_one (ps_ret (pe_lst (pa_cons (pe_const rfl cR) pa_nil)))) pss_nil)
      (pss_cons (ps_set (i := 2) scBL.nd rfl (Or.inl rfl) (pe_call BP.ok hr3 rfl BP.mg BP.kp BP.bd .nil pass0 (pa_cons (pe_fld (pv 0) rfl) (pa_cons (pv 1) (pa_cons (pe_fld (pv 0) rfl) pa_nil)))))
      (pss_one (ps_ret (pe_call X.Tf.ok hr3 rfl X.Tf.mg X.Tf.kp X.Tf.bd .nil pass0 (pa_cons (pe_call X.Wt.ok hr2 rfl X.Wt.mg X.Wt.kp X.Wt.bd .nil pass0 (pa_cons (pe_call X.L.ok hr2 rfl X.L.mg X.L.kp X.L.bd .nil pass0 (pa_cons (pv 2) (pa_cons pe_int pa_nil))) pa_nil))
        (pa_cons (pe_call X.Wt.ok hr2 rfl X.Wt.mg X.Wt.kp X.Wt.bd .nil pass0 (pa_cons (pv 2) pa_nil)) pa_nil)))))), ?_⟩
    refine seq_open fun U hU => ?_
    refine r_cmpVF rfl rfl ho X.T.cl X.T.nD (lf_days _ _ _ _ _) ?_
    refine ite2 (fun c1 => ?_) (fun c1 => ?_)
    · have c2 : ((u.days : Nat) : Int) < (x : Int) := of_decide_eq_true c1
      have e : Kp318.step (some u) (.bestLooked x) = (some u, Kp318.say (-22)) := by
        show (some u, if u.days < x then _ else _) = _
        rw [if_pos (lt_of_int c2)]
      exact ⟨by decide, fun r hr' => (D.as e).one L (Same.refl H) hr'⟩
    have c2 : ¬ ((u.days : Nat) : Int) < (x : Int) := of_decide_eq_false (Bool.eq_false_iff.mpr c1)
    have hx : x ≤ u.days := not_lt_int c2
    have e : Kp318.step (some u) (.bestLooked x) = (some u, Kp318.tell (Kp317.red ((Kp318.total (Kp318.with_ (Kp318.fair u.days x u.fine) 0) : Nat) : Int) (Kp318.total (Kp318.fair u.days x u.fine)))) := by
      show (some u, if u.days < x then _ else _) = _
      rw [if_neg (Nat.not_lt.mpr hx), Mth.look_eq x d1 b1]
    obtain ⟨f0, f1, f2⟩ := fair_sum d6 hx b1 b9
    have fl := fair_len x u.fine d6
    subst hU
    refine seq_openN fun U hU => ?_
    refine r_bp rfl rfl (ho) X.T.cl X.T.nD X.T.nF (lf_days _ _ _ _ _) (lf_fine _ _ _ _ _) (d6) (Nat.le_trans hx wk.d1000) (wk.f1000) fun H1 p1 s1 hp1 hl1 => ?_
    generalize Kp318.fair u.days x u.fine = fr at *
    subst hU
    refine ⟨_, rfl, p1, 0, fr, rfl, hl1, fl, fun H2 p2 s2 hp2 hl2 => ?_⟩
    refine ⟨p2, _, rfl, hl2, len_part _ fl, fun H3 s3 => ?_⟩
    refine ⟨_, rfl, p1, fr, rfl, hl1.same (s2.trans s3), fl, fun H4 s4 => ?_⟩
    refine ⟨_, _, rfl, f0, f2, fun H5 r s5 hr5 hl5 => ?_⟩
    have s04 : Same H H4 := ((s1.trans s2).trans s3).trans s4
    exact (D.as e).same L (s04.trans s5) (s04.free hr5) hl5
/-! ### caught, done, unlooked -/
theorem scCaught : FnScope ["lots"] ["lots"] (defScope (top 53)) := ⟨rfl, rfl, rfl, by decide +kernel, rfl, by decide +kernel, by decide +kernel⟩
theorem ok_caught {fO : Addr} {fdO : FuncData} (F : Fun K "tell_caught" "tell_caught" (top 53) f fd) (Oc : Cal P w K mg base 17 "outcome" ["lots"] (spOut C) fO fdO) (X : Kit P w K mg base C G fI fB fD fWt fP fL fR fW fT fdI fdB fdD fdWt fdP fdL fdR fdW fdT) : FnOk P w K mg base CX0 18 f fd ["lots"] (sp0 C true .caught) := by
  refine F.ok scCaught (fun vs H Q E h => ?_) (fun cdv A outer s0 H vs Q E hr h => ?_)
  · exact h.len
  · refine h.elim fun a pl u ev L need D => ?_
    subst ev
    have hr2 : Room 2 _ := hr.mono (by decide)
    have hr3 : Room 3 _ := hr.mono (by decide)
    obtain ⟨dx, ho⟩ := L.w_obj
    have hP := L.w_pls
    have wk := L.w_ok
    have hn := need rfl
    obtain ⟨t0, t1⟩ := wk.sum hn
    have l10 := wk.len
    have e : Kp318.step (some u) .caught = (some u, Kp318.part u ((Kp318.outcome u).1 : Nat)) := by
      show (if u.plans.isEmpty = true then _ else _) = _
      rw [if_neg (isE hn)]
    refine ⟨_, pss_one (ps_ret (pe_call X.Tf.ok hr3 rfl X.Tf.mg X.Tf.kp X.Tf.bd .nil pass0 (pa_cons (pe_ix ix_tup (pe_call Oc.ok hr rfl Oc.mg Oc.kp Oc.bd .nil pass0 (pa_cons (pv 0) pa_nil)) pe_int (fun _ _ => rfl))
      (pa_cons (pe_call X.Wt.ok hr2 rfl X.Wt.mg X.Wt.kp X.Wt.bd .nil pass0 (pa_cons (pe_fld (pv 0) rfl) pa_nil)) pa_nil)))), ?_⟩
    refine ⟨_, rfl, a, pl, u, rfl, L, fun H1 p1 s1 n1 h1 => ?_⟩
    refine ⟨p1, _, _, _, rfl, rfl, SqT.of h1, rfl, ?_⟩
    refine r_wtF rfl (s1 _ _ ho) X.T.cl X.T.nP (lf_plans _ _ _ _ _) (hP.same s1) wk.l1000 fun H2 s2 => ?_
    refine ⟨_, _, rfl, t0, t1, fun H3 r s3 hr3 hl3 => ?_⟩
    have s02 : Same H H2 := s1.trans s2
    exact (D.as e).same L (s02.trans s3) (s02.free hr3) hl3
theorem scDone : FnScope ["lots"] ["lots"] (defScope (top 54)) := ⟨rfl, rfl, rfl, by decide +kernel, rfl, by decide +kernel, by decide +kernel⟩
theorem ok_done {fO : Addr} {fdO : FuncData} (F : Fun K "tell_done" "tell_done" (top 54) f fd) (Oc : Cal P w K mg base 17 "outcome" ["lots"] (spOut C) fO fdO) (X : Kit P w K mg base C G fI fB fD fWt fP fL fR fW fT fdI fdB fdD fdWt fdP fdL fdR fdW fdT) : FnOk P w K mg base CX0 18 f fd ["lots"] (sp0 C true .done) := by
  refine F.ok scDone (fun vs H Q E h => ?_) (fun cdv A outer s0 H vs Q E hr h => ?_)
  · exact h.len
  · refine h.elim fun a pl u ev L need D => ?_
    subst ev
    have hr2 : Room 2 _ := hr.mono (by decide)
    have hr3 : Room 3 _ := hr.mono (by decide)
    obtain ⟨dx, ho⟩ := L.w_obj
    have hP := L.w_pls
    have wk := L.w_ok
    have hn := need rfl
    obtain ⟨t0, t1⟩ := wk.sum hn
    have l10 := wk.len
    have e : Kp318.step (some u) .done = (some u, Kp318.part u ((Kp318.outcome u).2 : Nat)) := by
      show (if u.plans.isEmpty = true then _ else _) = _
      rw [if_neg (isE hn)]
    refine ⟨_, pss_one (ps_ret (pe_call X.Tf.ok hr3 rfl X.Tf.mg X.Tf.kp X.Tf.bd .nil pass0 (pa_cons (pe_ix ix_tup (pe_call Oc.ok hr rfl Oc.mg Oc.kp Oc.bd .nil pass0 (pa_cons (pv 0) pa_nil)) pe_int (fun _ _ => rfl))
      (pa_cons (pe_call X.Wt.ok hr2 rfl X.Wt.mg X.Wt.kp X.Wt.bd .nil pass0 (pa_cons (pe_fld (pv 0) rfl) pa_nil)) pa_nil)))), ?_⟩
    refine ⟨_, rfl, a, pl, u, rfl, L, fun H1 p1 s1 n1 h1 => ?_⟩
    refine ⟨p1, _, _, _, rfl, rfl, SqT.of h1, rfl, ?_⟩
    refine r_wtF rfl (s1 _ _ ho) X.T.cl X.T.nP (lf_plans _ _ _ _ _) (hP.same s1) wk.l1000 fun H2 s2 => ?_
    refine ⟨_, _, rfl, t0, t1, fun H3 r s3 hr3 hl3 => ?_⟩
    have s02 : Same H H2 := s1.trans s2
    exact (D.as e).same L (s02.trans s3) (s02.free hr3) hl3
theorem scUn : FnScope ["lots", "without", "plan"] ["lots"] (defScope (top 55)) := ⟨rfl, rfl, rfl, by decide +kernel, rfl, by decide +kernel, by decide +kernel⟩
theorem ok_unlooked (F : Fun K "tell_unlooked" "tell_unlooked" (top 55) f fd) (X : Kit P w K mg base C G fI fB fD fWt fP fL fR fW fT fdI fdB fdD fdWt fdP fdL fdR fdW fdT) : FnOk P w K mg base CX0 18 f fd ["lots"] (sp0 C true .unlooked) := by
  refine F.ok scUn (fun vs H Q E h => ?_) (fun cdv A outer s0 H vs Q E hr h => ?_)
  · exact h.len
  · refine h.elim fun a pl u ev L need D => ?_
    subst ev
    have hr2 : Room 2 _ := hr.mono (by decide)
    have hr3 : Room 3 _ := hr.mono (by decide)
    obtain ⟨dx, ho⟩ := L.w_obj
    have hP := L.w_pls
    obtain ⟨rs, hl, pr⟩ := L.w_pls
    have wk := L.w_ok
    have hn := need rfl
    obtain ⟨t0, t1⟩ := wk.sum hn
    have l10 := wk.len
    have e : Kp318.step (some u) .unlooked = (some u, Kp318.part u (Kp318.total (u.plans.filter fun p => p.set == 0))) := by
      show (if u.plans.isEmpty = true then _ else _) = _
      rw [if_neg (isE hn)]
    refine ⟨_, pss_cons (ps_setLc (i := 1) (own := [("plan", 2)]) rfl scUn.nd rfl rfl (sw_true rfl rfl rfl rfl) (pi_list (pe_fld (pv 0) rfl)) (show BlkOk ["lots", "without", "plan"] (defScope (top 55)) _ _ from blkOk_by (by decide +kernel))
        (fun _ _ _ _ _ => pg_name (i := 2) scUn.nd rfl (Or.inl rfl))
        (fun _ _ _ _ _ => pts_one (pt_cmpR op_eq (pe_ix (r := rIxT K) ix_tup (pv 2) pe_int (fun _ _ => rfl)) pe_int (nomark _)))
        (fun _ _ _ _ _ => pv 2))
      (pss_one (ps_ret (pe_call X.Tf.ok hr3 rfl X.Tf.mg X.Tf.kp X.Tf.bd .nil pass0 (pa_cons (pe_call X.Wt.ok hr2 rfl X.Wt.mg X.Wt.kp X.Wt.bd .nil pass0 (pa_cons (pv 1) pa_nil))
        (pa_cons (pe_call X.Wt.ok hr2 rfl X.Wt.mg X.Wt.kp X.Wt.bd .nil pass0 (pa_cons (pe_fld (pv 0) rfl) pa_nil)) pa_nil))))), ?_⟩
    refine seq_open fun U hU => ?_
    refine ⟨_, rfl, a, C, dx, _, _, rfl, ho, X.T.cl, X.T.nP, lf_plans _ _ _ _ _, pl, rfl, ⟨_, SqL.of hl⟩, fun Dd hD => ?_⟩
    refine lc_list (K := K) (a := pl) (xs := rs.map V.ref) (Filt H Dd u.plans fun p => p.set == 0) (Filt.start hD) (fun i H' _ z => z.same.seq (SqL.of hl)) ?_ ?_
    · rintro i v H' hi F'
      obtain ⟨r, hr', rfl⟩ := ref_at hi
      obtain ⟨p, hp, tp⟩ := paired_get pr hr'
      refine ⟨rfl, _, rfl, r, _, _, _, rfl, rfl, SqT.of (F'.same _ _ tp), rfl, rfl, _, rfl, ?_⟩
      refine ite2 (fun c => ?_) (fun c => ?_)
      · have c' : V.int (p.set : Int) = V.int 0 := of_decide_eq_true c
        have c5 : p.set = 0 := int_zero c'
        exact ⟨_, rfl, F'.push hD wk.l1000 hp tp (beq_iff_eq.mpr c5)⟩
      · have c' : ¬ V.int (p.set : Int) = V.int 0 := of_decide_eq_false (Bool.eq_false_iff.mpr c)
        have c5 : ¬ p.set = 0 := fun q => c' (by rw [q]; rfl)
        exact F'.skip hp (beq_eq_false_iff_ne.mpr c5)
    · intro H' F'
      have hF := F'.done (by rw [List.length_map, Paired.length pr])
      have s2 := F'.same
      subst hU
      refine ⟨_, rfl, Dd, _, rfl, hF, len_part _ wk.l1000, fun H3 s3 => ?_⟩
      refine r_wtF rfl (s3 _ _ (s2 _ _ ho)) X.T.cl X.T.nP (lf_plans _ _ _ _ _) (hP.same (s2.trans s3)) wk.l1000 fun H4 s4 => ?_
      refine ⟨_, _, rfl, t0, t1, fun H5 r s5 hr5 hl5 => ?_⟩
      have s04 : Same H H4 := (s2.trans s3).trans s4
      exact (D.as e).same L (s04.trans s5) (s04.free hr5) hl5
end
end Pl

set_option Elab.async false
set_option linter.all false
set_option maxRecDepth 100000
set_option maxHeartbeats 2000000
namespace Pl
open PySem PySem.Spec PyProof PyProof.Rows L2
/-! ### xs.extend(t), t a tuple -/
theorem ext_tup (l : Addr) (its : Array Value) (n : Nat) (b : Addr) (o : Obj) (zts : Array Value) (m : Nat) (hc : o.cls = .type "tuple") (hd : o.data = .seq zts m)
    (h0 : ¬ (!its.isEmpty && Builtin.List.listTooLong (its.size + zts.size)) = true) (h1 : its.size ≤ sizeLine) (h2 : its.size + zts.size ≤ sizeLine + 1) :
    Meets (Builtin.«list.extend» ⟨[.ref l, .ref b], []⟩) (fun _ R s => s.heap.get? l = some { cls := .type "list", dict := none, data := .seq its n, slots := #[] } ∧ s.heap.get? b = some o ∧
      R (.ok (.ret Value.none)) { s with heap := s.heap.update l (Obj.mapSeq fun x => x ++ zts), toks := s.toks }) := by
  obtain ⟨oc, od, dt, sl⟩ := o
  cases hc
  cases hd
  refine .of_wp fun prog w A R s h => ?_
  obtain ⟨hp, g, d, tk, os⟩ := s
  obtain ⟨hl, hb, h⟩ := h
  have f1 := PySem.AutoSeq1.sub_list_tuple
  have f2 := PySem.AutoSeq1.sub_tuple_tuple
  have f3 := PySem.AutoSeq1.sub_list_list
  have f4 := PySem.AutoSeq1.sub_tuple_list
  have f5 := PySem.AutoSeq1.idx_int
  have hz : (its ++ zts).size ≤ sizeLine + 1 := by
    rw [Array.size_append]
    exact h2
  wp_walk using (wpAny_updateSeq hl rfl (hz := h1) (_hz' := hz)), PySem.AutoSeq1.wpAny_loadPart' hl, PySem.AutoSeq1.wpAny_loadPart' hb
  exact ⟨_, rfl, h⟩
noncomputable def rExtT : V → List V → Hp → VK → Prop := fun x vs H Q => ∃ l b xs zs, x = .ref l ∧ vs = [.ref b] ∧ H l = some (.lst xs) ∧ H b = some (.tup zs) ∧ xs.length + zs.length ≤ sizeLine ∧ Q .non (upd H l (.lst (xs ++ zs)))
theorem mt_extT {X : Cx} : MtM X "list.extend" rExtT := by
  intro pins s σ H x vs v us Q I rx rv h
  obtain ⟨l, b, xs, zs, rfl, rfl, hH, hB, hz, q⟩ := h
  cases rx
  obtain ⟨u, rfl, ru⟩ := rv.one
  cases ru
  obtain ⟨z, its, n, r, hl, e⟩ := I.lstM hH
  obtain ⟨its2, r2, ⟨o, e2, hc2, n2, hd2⟩, z2⟩ := I.tuple (SqT.of hB)
  have hl2 : zs.length = its2.length := r2.length
  have hsz : its.toArray.size + its2.toArray.size ≤ sizeLine := by
    rw [List.size_toArray, List.size_toArray]
    omega
  have hlong : ¬ (!its.toArray.isEmpty && Builtin.List.listTooLong (its.toArray.size + its2.toArray.size)) = true := by
    intro w
    rw [notLongL hsz, Bool.and_false] at w
    cases w
  refine call_meets F.slot_list_extend ⟨_, e, rfl⟩ F.entry_list_extend (F.args_list_extend_2 _ _) (ext_tup l its.toArray n b o its2.toArray n2 hc2 hd2 hlong (by rw [List.size_toArray]; omega) (by omega)) ⟨e, e2, ?_⟩
  refine ⟨.non, _, I.lset (its' := its ++ its2) hH e (by simp) (r.append r2) ?_, rfl, q⟩
  rw [List.length_append]
  omega
section
variable {P : Program} {w : World} {K : PySem.W.Frag} {mg : Str → Option Value} {base : Heap} {f : Addr} {fd : FuncData}
/-! ### told -/
noncomputable def pairs (ps : List Kp318.Plan) : List Int := ps.flatMap fun (p : Kp318.Plan) => [(p.set : Int), (p.weight : Int)]
theorem pairs_len : ∀ ps : List Kp318.Plan, (pairs ps).length = 2 * ps.length
  | [] => rfl
  | p :: ps => by
    show (pairs ps).length + 1 + 1 = 2 * (ps.length + 1)
    rw [pairs_len ps]
    omega
theorem pairs_snoc (ps : List Kp318.Plan) (p : Kp318.Plan) : pairs (ps ++ [p]) = pairs ps ++ [(p.set : Int), (p.weight : Int)] := by
  unfold pairs
  rw [List.flatMap_append]
  rfl
noncomputable def ahead (u : Kp318.Watch) : List Int := [(u.days : Int), (u.misdeeds : Int), (u.fine : Int), (u.plans.length : Int)]
theorem scAll : FnScope ["lots", "told", "plan"] ["lots"] (defScope (top 56)) := ⟨rfl, rfl, rfl, by decide +kernel, rfl, by decide +kernel, by decide +kernel⟩
theorem ok_all {C : Addr} (F : Fun K "tell_all" "tell_all" (top 56) f fd) (T : LTxt K C) (ml : mg "len" = none) : FnOk P w K mg base CX0 18 f fd ["lots"] (sp0 C false .told) := by
  refine F.ok scAll (fun vs H Q E h => ?_) (fun cdv A outer s0 H vs Q E hr h => ?_)
  · exact h.len
  · refine h.elim fun a pl u ev L _ D => ?_
    subst ev
    obtain ⟨dx, ho⟩ := L.w_obj
    obtain ⟨rs, hl, pr⟩ := L.w_pls
    have wk := L.w_ok
    have l10 := wk.len
    have elen := len_int pr
    have e : Kp318.step (some u) .told = (some u, ⟨(u.days : Int), ((u.misdeeds : Int) :: (u.fine : Int) :: (u.plans.length : Int) :: pairs u.plans)⟩) := rfl
    refine ⟨_, pss_cons (ps_set (i := 1) scAll.nd rfl (Or.inl rfl) (pe_lst (pa_cons (pe_fld (pv 0) rfl) (pa_cons (pe_fld (pv 0) rfl) (pa_cons (pe_fld (pv 0) rfl) (pa_cons (pe_callB call_len_seq rfl ml PySem.boot_len (pa_cons (pe_fld (pv 0) rfl) pa_nil)) pa_nil))))))
      (pss_cons (ps_for PassesOwn.never rfl (pi_list (pe_fld (pv 0) rfl)) (pg_name (i := 2) scAll.nd rfl (Or.inl rfl))
        (pss_one (ps_expr (pe_bm PySem.F.plainAttrs_list PySem.F.slot_list_extend PySem.F.type_list_extend mt_extT (pv 1) (pa_cons (pv 2) pa_nil)))))
      (pss_one (ps_ret (pv 1)))), ?_⟩
    refine ⟨_, rfl, a, C, dx, _, _, rfl, ho, T.cl, T.nD, lf_days _ _ _ _ _, _, rfl, a, C, dx, _, _, rfl, ho, T.cl, T.nM, lf_misdeeds _ _ _ _ _, _, rfl, a, C, dx, _, _, rfl, ho, T.cl, T.nF, lf_fine _ _ _ _ _, _, rfl, a, C, dx, _, _, rfl, ho, T.cl, T.nP, lf_plans _ _ _ _ _, pl, _, rfl, .inl (SqL.of hl),
      (by show 4 ≤ sizeLine; decide), fun t ht => ?_⟩
    have s1 := same_new ht (.lst [.int (u.days : Int), .int (u.misdeeds : Int), .int (u.fine : Int), .int ((rs.map V.ref).length : Int)])
    refine ⟨_, rfl, a, C, dx, _, _, rfl, s1 _ _ ho, T.cl, T.nP, lf_plans _ _ _ _ _, pl, rfl, ⟨_, SqL.of (s1 _ _ hl)⟩, ?_⟩
    refine for_list (K := K) (a := pl) (xs := rs.map V.ref) (fun i σ H' => ∃ v, σ = [some (.ref a), some (.ref t), v] ∧ Same H H' ∧ H' t = some (.lst ((ahead u ++ pairs (u.plans.take i)).map V.int))) ⟨none, rfl, s1, ?_⟩ (fun i σ H' _ z => ?_) ?_ ?_
    · rw [upd_same, elen]
      rfl
    · obtain ⟨v, _, sm, _⟩ := z
      exact sm.seq (SqL.of hl)
    · rintro i x σ H' hi ⟨v, rfl, sm, hacc⟩
      obtain ⟨r, hr', rfl⟩ := ref_at hi
      obtain ⟨p, hp, tp⟩ := paired_get pr hr'
      refine ⟨_, rfl, .inl ⟨rfl, _, SqL.of hacc⟩, _, rfl, t, r, _, _, rfl, rfl, hacc, sm _ _ tp, ?_, ?_⟩
      · rw [List.length_map, List.length_append, pairs_len, List.length_take]
        show 4 + 2 * _ + 2 ≤ sizeLine
        exact Nat.le_of_lt (small1000 (by omega))
      · refine ⟨some (.ref r), rfl, fun b o zz => ?_, ?_⟩
        · rw [upd_ne (ne_of_none zz ht)]
          exact sm _ _ zz
        · have em : (ahead u ++ pairs (u.plans.take i) ++ [(p.set : Int), (p.weight : Int)]).map V.int = (ahead u ++ pairs (u.plans.take i)).map V.int ++ [V.int (p.set : Int), V.int (p.weight : Int)] := List.map_append
          rw [upd_same, take_snoc hp, pairs_snoc, ← List.append_assoc, em]
    · rintro σ H' ⟨v, rfl, sm, hacc⟩
      refine ⟨_, rfl, ?_⟩
      rw [elen, List.take_length] at hacc
      exact (D.as e).same L sm ht hacc
end
end Pl

set_option Elab.async false
set_option linter.all false
set_option maxRecDepth 100000
set_option maxHeartbeats 2000000
namespace Pl
open PySem PySem.Spec PyProof.Rows L2
section
variable {P : Program} {w : World} {K : PySem.W.Frag} {mg : Str → Option Value} {base : Heap} {f : Addr} {fd : FuncData}
/-- one call, whatever it is -/
noncomputable def spAT (C : Addr) : Sp := fun vs H Q _ => ∃ (a pl gl : Addr) (st : Kp318.State) (p : Int) (args : List Int) (c : Kp318.Call), vs = [.ref a, .int p, .ref gl] ∧ Mth.Req p args c ∧ H gl = some (.lst (args.map V.int)) ∧ LotsAt C H a pl st ∧ DoneC C H a pl st c Q
/-- a tuple of the module -/
noncomputable def KT (K : PySem.W.Frag) (a : Addr) (xs : List V) : Prop := ∃ (o : Obj) (its : Array Value) (n : Nat), K.lookup a = some o ∧ o.cls = .type "tuple" ∧ o.data = .seq its n ∧ its.size ≤ sizeLine ∧ Vals xs its.toList
theorem KT.sq {a : Addr} {xs : List V} {H : Hp} (h : KT K a xs) : SqT K H a xs := .inr h
noncomputable def takes : List V := [.int 3, .int 2, .int 1, .int 2, .int 1, .int 1, .int 1, .int 0, .int 0, .int 3, .int 1, .int 0, .int 0, .int 1, .int 0, .int 2, .int 1, .int 0, .int 0, .int 0, .int 0]
theorem takes_at {p : Int} {args : List Int} {c : Kp318.Call} (r : Mth.Req p args c) : atI takes p = some (.int (args.length : Int)) := by
  cases r <;> rfl
theorem cut_args {ns r : List Int} {i n : Nat} {p : Int} (h : ns.drop i = p :: r) (hn : n ≤ r.length) : cutV (ns.map V.int) (some ((i : Int) + 1)) (some ((i : Int) + 1 + (n : Int))) = (r.take n).map V.int := by
  have e1 : (i : Int) + 1 = ((i + 1 : Nat) : Int) := by omega
  have e2 : (i : Int) + 1 + (n : Int) = ((i + 1 + n : Nat) : Int) := by omega
  have hl : (ns.drop i).length = r.length + 1 := by rw [h]; rfl
  rw [List.length_drop] at hl
  have e3 : ns.drop (i + 1) = r := by
    have z : (ns.drop i).drop 1 = r := by rw [h]; rfl
    rw [List.drop_drop] at z
    exact z
  unfold cutV
  rw [e2, e1, HT.sIx_nat, HT.sIx_nat, List.length_map, Nat.min_eq_left (by omega), Nat.min_eq_left (by omega), ← List.map_drop, e3, ← List.map_take]
  have e4 : i + 1 + n - (i + 1) = n := by omega
  rw [e4]
theorem scAns : FnScope ["calls", "lots", "told", "place", "number", "behind", "answer"] ["calls"] (defScope (top 63)) := ⟨rfl, rfl, rfl, by decide +kernel, rfl, by decide +kernel, by decide +kernel⟩
noncomputable def spAll (K : PySem.W.Frag) : Sp := fun vs H Q _ => ∃ (a : Addr) (ns : List Int), vs = [.ref a] ∧ SqL K H a (ns.map V.int) ∧ PyKp318.answers_asked ns = true ∧ ∀ (H' : Hp) (p : Addr), H' p = some (.lst ((PyKp318.answers ns).map V.int)) → Q (.ref p) H'
/-- between two turns -/
structure Loop (C : Addr) (K : PySem.W.Frag) (H : Hp) (cl a t : Addr) (ns : List Int) (i : Nat) (H' : Hp) : Prop where
  ex : ∃ (fu : Nat) (cs : List (List (List Int))) (st : Kp318.State) (pl : Addr) (out : List Int), PyFlat.calls PyKp318.shape fu (ns.drop i) = some cs ∧ (∀ c ∈ cs, Kp318Neutral.asked1 c = true) ∧ LotsAt C H' a pl st ∧ t ≠ pl ∧ H pl = none ∧
    H' t = some (.lst (out.map V.int)) ∧ PyKp318.answers ns = out ++ PyFlat.told (PyFlat.played Kp318Neutral.step st cs)
  le : i ≤ ns.length
  same : Same H H'
  ha : H a = none
  ht : H t = none
  ta : t ≠ a
theorem drop_cons {ns : List Int} {i : Nat} (h : i < ns.length) : ∃ p r, ns.drop i = p :: r ∧ atI (ns.map V.int) (i : Int) = some (.int p) := by
  refine ⟨ns[i], ns.drop (i + 1), List.drop_eq_getElem_cons h, atI_nat ?_⟩
  rw [List.getElem?_map, List.getElem?_eq_getElem h]
  rfl
theorem ok_answers {C fI fA tk : Addr} {fdI fdA : FuncData} {k : Nat} (hk : 2 ≤ k) (F : Fun K "answers" "answers" (top 63) f fd) (ml : mg "len" = none) (M : Mk K C fI) (GI : FnOk P w K mg base CX0 1 fI fdI ["self"] (spLInit C)) (bI : Binds K fdI ["self"] []) (mC : mg "Lots" = some (.ref C))
    (mT : mg "TAKES" = some (.ref tk)) (kT : KT K tk takes) (AT : Cal P w K mg base k "answer_to" ["lots", "number", "given"] (spAT C) fA fdA) : FnOk P w K mg base CX0 (k + 1) f fd ["calls"] (spAll K) := by
  refine F.ok scAns (fun vs H Q E h => ?_) (fun cdv A outer s0 H vs Q E hr h => ?_)
  · obtain ⟨a, ns, rfl, _⟩ := h
    rfl
  · obtain ⟨cl, ns, rfl, hS, hask, q⟩ := h
    have hr2 : Room 2 _ := hr.mono hk
    obtain ⟨cs0, hcs0, hshort, hall0⟩ := Mth.asked_calls hask
    refine ⟨_, pss_cons (ps_set (i := 1) scAns.nd rfl (Or.inl rfl) (pe_make0 M GI hr2 rfl mC bI .nil pass0)) (pss_cons (ps_set (i := 2) scAns.nd rfl (Or.inl rfl) (pe_lst pa_nil)) (pss_cons (ps_set (i := 3) scAns.nd rfl (Or.inl rfl) pe_int)
      (pss_cons (ps_while PassesOwn.never (pt_cmpR op_lt (pv 3) (pe_callB call_len_seq rfl ml PySem.boot_len (pa_cons (pv 0) pa_nil)) (nomark _))
        (pss_cons (ps_set (i := 4) scAns.nd rfl (Or.inl rfl) (pe_ix ix_list (pv 0) (pv 3) (fun _ _ => rfl)))
        (pss_cons (ps_set (i := 5) scAns.nd rfl (Or.inl rfl) (pe_op op_add (pe_op op_add (pv 3) pe_int) (pe_ix ix_tup (pe_glob (v := .ref tk) rfl mT rfl) (pv 4) (fun _ _ => rfl))))
        (pss_cons (ps_set (i := 6) scAns.nd rfl (Or.inl rfl) (pe_call AT.ok hr rfl AT.mg AT.kp AT.bd .nil pass0 (pa_cons (pv 1) (pa_cons (pv 4) (pa_cons (pe_slice sl_list (pv 0) (po_some (pe_op op_add (pv 3) pe_int)) (po_some (pv 5))) pa_nil)))))
        (pss_cons (ps_expr (pe_bm PySem.F.plainAttrs_list PySem.F.slot_list_append PySem.F.type_list_append mt_append (pv 2) (pa_cons (pe_callB call_len_seq rfl ml PySem.boot_len (pa_cons (pv 6) pa_nil)) pa_nil)))
        (pss_cons (ps_expr (pe_bm PySem.F.plainAttrs_list PySem.F.slot_list_extend PySem.F.type_list_extend mt_extend (pv 2) (pa_cons (pv 6) pa_nil)))
        (pss_one (ps_set (i := 3) scAns.nd rfl (Or.inl rfl) (pv 5)))))))))
      (pss_one (ps_ret (pv 2)))))), ?_⟩
    intro a da na nda ned
    refine ⟨a, da, rfl, upd_same, fun H1 pl0 L0 hpl0 kp1 => ⟨rfl, ?_⟩⟩
    have s1 : Same H H1 := Same.made na nda kp1
    have hpl : H pl0 = none := by
      have npa : pl0 ≠ a := fun z => by rw [z, upd_same] at hpl0; cases hpl0
      have npd : pl0 ≠ da := fun z => by rw [upd_ne npa, z, upd_same] at hpl0; cases hpl0
      rw [upd_ne npa, upd_ne npd] at hpl0
      exact hpl0
    refine ⟨(by show 0 ≤ sizeLine; decide), fun t ht => ?_⟩
    have st1 : Same H1 (upd H1 t (.lst [])) := same_new ht _
    obtain ⟨dxl, hol⟩ := L0.obj
    obtain ⟨rsl, hll, prl⟩ := L0.pls
    have start : Loop C K H cl a t ns 0 (upd H1 t (.lst [])) := by
      refine ⟨⟨ns.length, cs0, none, pl0, [], hcs0, hall0, L0.same st1, fun z => ?_, hpl, upd_same, Mth.answers_eq hcs0⟩, Nat.zero_le _, s1.trans st1, na, s1.free ht, fun z => ?_⟩
      · rw [z, hll] at ht; cases ht
      · rw [z, hol] at ht; cases ht
    refine while_by (fun σ H' => ∃ (i : Nat) (v4 v5 v6 : Option V), σ = [some (.ref cl), some (.ref a), some (.ref t), some (.int (i : Int)), v4, v5, v6] ∧ Loop C K H cl a t ns i H')
      (fun (σ : L2.St) _ => match σ[3]? with | some (some (V.int r)) => ns.length - r.toNat | _ => 0) ⟨0, none, none, none, rfl, start⟩ ?_ ?_
    · rintro _ H2 ⟨i, v4, v5, v6, rfl, Lp⟩
      have hS2 : SqL K H2 cl (ns.map V.int) := Lp.same.seq hS
      refine ⟨_, rfl, _, rfl, cl, _, rfl, .inl hS2, _, _, rfl, rfl, _, rfl, ?_⟩
      obtain ⟨fu, cs, st, pl, out, hcs, hall, L, ntp, hpl2, hout, hans⟩ := Lp.ex
      refine ite2 (fun c => ?_) (fun c => ?_)
      · have c' : (i : Int) < ((ns.map V.int).length : Int) := of_decide_eq_true c
        rw [List.length_map] at c'
        have hi : i < ns.length := by omega
        obtain ⟨p, r, hdr, hat⟩ := drop_cons hi
        rw [hdr] at hcs
        obtain ⟨fu', n, cs', rfl, hsh, hn, rfl, hcs'⟩ := Mth.calls_none hcs
        have hlen : (r.take n).length = n := by rw [List.length_take]; omega
        obtain ⟨cc, rq⟩ := (Mth.known hsh hlen).2 (hall _ (List.mem_cons_self ..))
        have htk := takes_at rq
        rw [hlen] at htk
        refine ⟨_, rfl, _, rfl, cl, _, _, _, rfl, rfl, hS2, hat, ?_⟩
        refine ⟨_, rfl, _, _, rfl, rfl, _, rfl, tk, _, _, _, rfl, rfl, kT.sq, htk, _, _, rfl, rfl, ?_⟩
        refine ⟨_, rfl, _, rfl, _, rfl, _, rfl, _, _, rfl, rfl, _, rfl, _, rfl, _, rfl, cl, _, rfl, hS2, fun gl hgl => ?_⟩
        have sg : Same H2 (upd H2 gl (.lst (cutV (ns.map V.int) (some ((i : Int) + 1)) (some ((i : Int) + 1 + (n : Int)))))) := same_new hgl _
        refine ⟨a, pl, gl, st, p, r.take n, cc, rfl, rq, (by rw [upd_same]; exact congrArg (fun z => some (HO.lst z)) (cut_args hdr hn)), L.same sg, ?_⟩
        intro H3 rr pl' L3 hpl3 hrr hl3 kp3
        have ntrr : t ≠ rr := ne_of_none (sg _ _ hout) hrr
        have hout3 : H3 t = some (.lst (out.map V.int)) := kp3 _ _ (sg _ _ hout) Lp.ta ntp
        have hans2 : PyKp318.answers ns = (out ++ ((ansOf (Kp318.step st cc)).length : Int) :: ansOf (Kp318.step st cc)) ++ PyFlat.told (PyFlat.played Kp318Neutral.step (Kp318.step st cc).1 cs') := by
          rw [hans]
          show out ++ PyFlat.told ((Kp318Neutral.step st [p :: r.take n]).2 :: PyFlat.played Kp318Neutral.step (Kp318Neutral.step st [p :: r.take n]).1 cs') = _
          rw [rq.step, Mth.told_cons, List.append_assoc]
          rfl
        have hlenA : out.length + ((ansOf (Kp318.step st cc)).length + 1) ≤ 10000000 := by
          have z := congrArg List.length hans2
          rw [List.length_append, List.length_append, List.length_cons] at z
          omega
        have lim : (10000000 : Nat) < sizeLine := by decide
        refine ⟨_, rfl, .inl ⟨rfl, _, SqL.of hout3⟩, _, rfl, rr, _, rfl, .inl (SqL.of hl3), t, _, _, rfl, rfl, hout3, (by rw [List.length_map]; omega), ?_⟩
        refine ⟨_, rfl, .inl ⟨rfl, _, SqL.of upd_same⟩, _, rfl, t, rr, _, _, rfl, rfl, upd_same, (by rw [upd_ne (fun z => ntrr z.symm)]; exact hl3), (by rw [List.length_append, List.length_map, List.length_map]; show out.length + 1 + _ ≤ _; omega), ?_⟩
        refine ⟨_, rfl, ?_⟩
        have hn' : i + 1 + n ≤ ns.length := by
          have z := congrArg List.length hdr
          rw [List.length_drop] at z
          have z2 : (p :: r).length = r.length + 1 := rfl
          omega
        have hdr' : ns.drop (i + 1 + n) = r.drop n := by
          have z : (ns.drop i).drop (1 + n) = r.drop n := by
            rw [hdr, Nat.add_comm]
            rfl
          rw [List.drop_drop] at z
          rw [← z]
          congr 1
          omega
        have ntp3 : t ≠ pl' := by
          rcases hpl3 with z | z
          · rw [z]; exact ntp
          · exact ne_of_none (sg _ _ hout) z
        have hpl4 : H pl' = none := by
          rcases hpl3 with z | z
          · rw [z]; exact hpl2
          · exact (Lp.same.trans sg).free z
        refine ⟨⟨i + 1 + n, some (.int p), some (.int ((i : Int) + 1 + (n : Int))), some (.ref rr), ?_, ⟨⟨fu', cs', _, pl', out ++ ((ansOf (Kp318.step st cc)).length : Int) :: ansOf (Kp318.step st cc), ?_, fun c' hc' => hall c' (List.mem_cons_of_mem _ hc'), ?_, ntp3, hpl4, ?_, hans2⟩, hn', fun b o e => ?_, Lp.ha, Lp.ht, Lp.ta⟩⟩, ?_⟩
        · show [some (V.ref cl), some (V.ref a), some (V.ref t), some (V.int ((i : Int) + 1 + (n : Int))), some (V.int p), some (V.int ((i : Int) + 1 + (n : Int))), some (V.ref rr)] = _
          have e : (i : Int) + 1 + (n : Int) = ((i + 1 + n : Nat) : Int) := by omega
          rw [e]
        · rw [hdr']
          exact hcs'
        · obtain ⟨⟨dx3, ho3⟩, ⟨rs3, hl33, pr3⟩, ok3⟩ := L3
          refine ⟨⟨dx3, ?_⟩, ⟨rs3, ?_, ?_⟩, ok3⟩
          · rw [upd_ne (fun z => Lp.ta z.symm), upd_ne (fun z => Lp.ta z.symm)]
            exact ho3
          · rw [upd_ne (fun z => ntp3 z.symm), upd_ne (fun z => ntp3 z.symm)]
            exact hl33
          · exact paired_upd (paired_upd pr3 hout3 (fun l z => by cases z)) upd_same (fun l z => by cases z)
        · rw [upd_same, List.map_append, List.append_assoc, List.length_map]
          rfl
        · have nbt : b ≠ t := ne_of_none e Lp.ht
          rw [upd_ne nbt, upd_ne nbt]
          exact kp3 b o (sg _ _ (Lp.same _ _ e)) (ne_of_none e Lp.ha) (ne_of_none e hpl2)
        · show ns.length - ((i : Int) + 1 + (n : Int)).toNat < ns.length - ((i : Int)).toNat
          omega
      · have c' : ¬ (i : Int) < ((ns.map V.int).length : Int) := of_decide_eq_false (Bool.eq_false_iff.mpr c)
        rw [List.length_map] at c'
        have hi : i = ns.length := by have := Lp.le; omega
        rw [hi, List.drop_length, Mth.calls_nil] at hcs
        have e : cs = [] := (Option.some.inj hcs).symm
        subst e
        refine ⟨_, rfl, q H2 t ?_⟩
        rw [hout, hans]
        show _ = some (HO.lst ((out ++ []).map V.int))
        rw [List.append_nil]
    · rintro σ H1 Q1 Q2 hq ⟨v, e, v2, e2, p, ys, e3, e4, i, j, e5, e6, k, e7, z⟩
      exact ⟨v, e, v2, e2, p, ys, e3, e4, i, j, e5, e6, k, e7, hq _ _ z⟩
end
end Pl

set_option Elab.async false
set_option linter.all false
set_option maxRecDepth 100000
set_option maxHeartbeats 2000000
namespace Pl
open PySem PySem.Spec PyProof.Rows L2
/-! ### a call of what a local name holds -/
noncomputable def tCallV (P : Program) (w : World) (K : PySem.W.Frag) (mg : Str → Option Value) (base : Heap) (k i : Nat) (t : TA) : TE := fun σ H Q => ∃ f, σ[i]? = some (some (.ref f)) ∧ ∃ (fd : FuncData) (ps : List Str) (sp : Sp), FnOk P w K mg base CX0 k f fd ps sp ∧ PySem.W.keepIn K (.ref f) = true ∧ Binds K fd ps [] ∧
  t σ H fun vs H1 => sp vs H1 Q E0
theorem pe_callV {X : Cx} {k i : Nat} {x : Str} {p pos : Pos} {e : Expr} {es : List Expr} {t : TA} (hr : Room k X.A) (hN : X.N[i]? = some x) (hv : Vis X.env.scope x) (hx : Passes CX0 X E0) (ha : PA X (e :: es) t)
    (hd : (x == ("__debug__" : Str)) = false := by decide) (hcd : (x == ("__classdict__" : Str)) = false := by decide)
    (he : starEach (e :: es) X.env = (false, eval e X.env) :: starEach es X.env := by rfl) (hpl : (backTo pos (starEach es X.env)).any (·.1) = false := by rfl) :
    PE X (.Call (.Name x p) (e :: es) [] pos) (tCallV X.prog X.w X.K X.mg X.base k i t) := by
  intro pins s σ H Q I h
  obtain ⟨f, ef, fd, ps, sp, F, hk, hb, q⟩ := h
  have v0 := pe_var (pos := p) hN hv hd hcd pins s σ H (fun v H' => v = .ref f ∧ H' = H) I ⟨_, ef, rfl, rfl⟩
  refine wpAny_Call_Name_kw (thn v0 fun u s1 z => ?_)
  obtain ⟨v, H1, I1, rv, rfl, rfl⟩ := z
  obtain rfl : u = Value.ref f := rv
  refine PySem.W.callWith_K (h₀ := X.base) I.ok.mod.kin hk (thn (ha pos pins s1 σ H1 _ I1 q) fun us s2 ⟨vs, H2, I2, r, q2⟩ => ⟨I2.kIn, ?_⟩) he hpl
  exact run_fn (dvs := []) (ds := []) F hr hb .nil hx I2 r (by rw [List.append_nil]; exact q2)
/-! ### the acts, by their numbers -/
noncomputable def asks (p : Int) : Bool := p == 7 || p == 8 || p == 9 || p == 10 || p == 11 || p == 12 || p == 14 || p == 17 || p == 18 || p == 19
structure Pre (p : Int) (st : Kp318.State) : Prop where
  begun : p ≠ 0 → ∃ u, st = some u
  plans : asks p = true → plS st ≠ []
section
variable {P : Program} {w : World} {K : PySem.W.Frag} {mg : Str → Option Value} {base : Heap} {f : Addr} {fd : FuncData}
/-- f does what the call c asks, that has the number p and these numbers -/
noncomputable def Good (P : Program) (w : World) (K : PySem.W.Frag) (mg : Str → Option Value) (base : Heap) (C : Addr) (p : Int) (args : List Int) (c : Kp318.Call) (f : Addr) : Prop := ∃ (fd : FuncData) (ps : List Str) (sp : Sp), FnOk P w K mg base CX0 18 f fd ps sp ∧ PySem.W.keepIn K (.ref f) = true ∧ Binds K fd ps [] ∧
  ∀ (a pl : Addr) (st : Kp318.State) (H : Hp) (Q : VK), LotsAt C H a pl st → Pre p st → DoneC C H a pl st c Q → sp (.ref a :: args.map V.int) H Q E0
theorem good_begin {C : Addr} {ps : List Str} {k x y z : Nat} (F : FnOk P w K mg base CX0 k f fd ps (spBegin C)) (hk : k ≤ 18) (kp : PySem.W.keepIn K (.ref f) = true) (bd : Binds K fd ps []) : Good P w K mg base C 0 [(x : Int), (y : Int), (z : Int)] (.begin_ x y z) f :=
  ⟨fd, ps, _, F.mono hk, kp, bd, fun a pl st H Q L pre D => ⟨a, pl, st, _, _, _, rfl, L, D⟩⟩
theorem good0 {C : Addr} {ps : List Str} {k : Nat} {need : Bool} {p : Int} {mk : Kp318.Call} (F : FnOk P w K mg base CX0 k f fd ps (sp0 C need mk)) (hk : k ≤ 18) (kp : PySem.W.keepIn K (.ref f) = true) (bd : Binds K fd ps [])
    (h0 : p ≠ 0) (hn : need = true → asks p = true) : Good P w K mg base C p [] mk f := by
  refine ⟨fd, ps, _, F.mono hk, kp, bd, fun a pl st H Q L pre D => ?_⟩
  obtain ⟨u, rfl⟩ := pre.begun h0
  exact ⟨a, pl, u, rfl, L, fun z => pre.plans (hn z), D⟩
theorem good1 {C : Addr} {ps : List Str} {k x : Nat} {need : Bool} {p : Int} {mk : Nat → Kp318.Call} (F : FnOk P w K mg base CX0 k f fd ps (sp1 C need mk)) (hk : k ≤ 18) (kp : PySem.W.keepIn K (.ref f) = true) (bd : Binds K fd ps [])
    (h0 : p ≠ 0) (hn : need = true → asks p = true) : Good P w K mg base C p [(x : Int)] (mk x) f := by
  refine ⟨fd, ps, _, F.mono hk, kp, bd, fun a pl st H Q L pre D => ?_⟩
  obtain ⟨u, rfl⟩ := pre.begun h0
  exact ⟨a, pl, u, x, rfl, L, fun z => pre.plans (hn z), D⟩
theorem good2 {C : Addr} {ps : List Str} {k x y : Nat} {need : Bool} {p : Int} {mk : Nat → Nat → Kp318.Call} (F : FnOk P w K mg base CX0 k f fd ps (sp2 C need mk)) (hk : k ≤ 18) (kp : PySem.W.keepIn K (.ref f) = true) (bd : Binds K fd ps [])
    (h0 : p ≠ 0) (hn : need = true → asks p = true) : Good P w K mg base C p [(x : Int), (y : Int)] (mk x y) f := by
  refine ⟨fd, ps, _, F.mono hk, kp, bd, fun a pl st H Q L pre D => ?_⟩
  obtain ⟨u, rfl⟩ := pre.begun h0
  exact ⟨a, pl, u, x, y, rfl, L, fun z => pre.plans (hn z), D⟩
theorem good3 {C : Addr} {ps : List Str} {k x y z : Nat} {need : Bool} {p : Int} {mk : Nat → Nat → Nat → Kp318.Call} (F : FnOk P w K mg base CX0 k f fd ps (sp3 C need mk)) (hk : k ≤ 18) (kp : PySem.W.keepIn K (.ref f) = true) (bd : Binds K fd ps [])
    (h0 : p ≠ 0) (hn : need = true → asks p = true) : Good P w K mg base C p [(x : Int), (y : Int), (z : Int)] (mk x y z) f := by
  refine ⟨fd, ps, _, F.mono hk, kp, bd, fun a pl st H Q L pre D => ?_⟩
  obtain ⟨u, rfl⟩ := pre.begun h0
  exact ⟨a, pl, u, x, y, z, rfl, L, fun z => pre.plans (hn z), D⟩
/-- the test len(xs) == n -/
theorem r_len {K : PySem.W.Frag} {σ : L2.St} {H : Hp} {Q : Bool → Hp → Prop} {i : Nat} {gl : Addr} {xs : List V} {n : Int} (e : σ[i]? = some (some (.ref gl))) (hS : SqL K H gl xs) (q : Q (decide (V.int (xs.length : Int) = V.int n)) H) :
    tTest (tOp rEq (tCB (fun xs H Q => ∃ p ys, xs = [V.ref p] ∧ (SqL K H p ys ∨ SqT K H p ys) ∧ Q (.int ys.length) H) (tCons (tVar i) tNil)) (tC (.int n))) σ H Q := ⟨_, e, gl, _, rfl, .inl hS, rfl, _, rfl, q⟩
theorem r_at {K : PySem.W.Frag} {σ : L2.St} {H : Hp} {Q : VK} {i : Nat} {gl : Addr} {xs : List V} {k : Int} {v : V} (e : σ[i]? = some (some (.ref gl))) (hS : SqL K H gl xs) (a : atI xs k = some v) (q : Q v H) : tOp (rIxL K) (tVar i) (tC (.int k)) σ H Q := ⟨_, e, gl, _, _, _, rfl, rfl, hS, a, q⟩
/-! ### act_on -/
noncomputable def spAct (C : Addr) : Sp := fun vs H Q _ => ∃ (a pl gl : Addr) (st : Kp318.State) (p : Int) (args : List Int) (c : Kp318.Call), vs = [.ref a, .int p, .ref gl] ∧ Mth.Req p args c ∧ H gl = some (.lst (args.map V.int)) ∧ LotsAt C H a pl st ∧ Pre p st ∧ DoneC C H a pl st c Q
theorem req_len {p : Int} {args : List Int} {c : Kp318.Call} (r : Mth.Req p args c) : args = [] ∨ (∃ x, args = [x]) ∨ (∃ x y, args = [x, y]) ∨ ∃ x y z, args = [x, y, z] := by
  cases r <;> simp
theorem scAct : FnScope ["lots", "number", "given", "act"] ["lots", "number", "given"] (defScope (top 61)) := ⟨rfl, rfl, rfl, by decide +kernel, rfl, by decide +kernel, by decide +kernel⟩
/-- acts: the addresses of the tuple's functions; each number that may come has a good one -/
theorem ok_act {C ac : Addr} {acts : List Addr} (F : Fun K "act_on" "act_on" (top 61) f fd) (ml : mg "len" = none) (mA : mg "ACTS" = some (.ref ac)) (kA : KT K ac (acts.map V.ref))
    (good : ∀ (p : Int) (args : List Int) (c : Kp318.Call), Mth.Req p args c → ∃ g, atI (acts.map V.ref) p = some (.ref g) ∧ Good P w K mg base C p args c g) : FnOk P w K mg base CX0 19 f fd ["lots", "number", "given"] (spAct C) := by
  refine F.ok scAct (fun vs H Q E h => ?_) (fun cdv A outer s0 H vs Q E hr h => ?_)
  · obtain ⟨a, pl, gl, st, p, args, c, rfl, _⟩ := h
    rfl
  · obtain ⟨a, pl, gl, st, p, args, c, rfl, rq, hgl, L, pre, D⟩ := h
    obtain ⟨g, hat, fdg, psg, spg, Fg, kpg, bdg, hg⟩ := good p args c rq
    have hD := hg a pl st H Q L pre D
    refine ⟨_, pss_cons (ps_set (i := 3) scAct.nd rfl (Or.inl rfl) (pe_ix ix_tup (pe_glob (v := .ref ac) rfl mA rfl) (pv 1) (fun _ _ => rfl)))
      (pss_cons (ps_if (pt_cmpR op_eq (pe_callB call_len_seq rfl ml PySem.boot_len (pa_cons (pv 2) pa_nil)) pe_int (nomark _)) (pss_one (ps_ret (pe_callV (i := 3) hr rfl (Or.inl rfl) pass0 (pa_cons (pv 0) pa_nil)))) pss_nil)
      (pss_cons (ps_if (pt_cmpR op_eq (pe_callB call_len_seq rfl ml PySem.boot_len (pa_cons (pv 2) pa_nil)) pe_int (nomark _)) (pss_one (ps_ret (pe_callV (i := 3) hr rfl (Or.inl rfl) pass0 (pa_cons (pv 0) (pa_cons (pe_ix ix_list (pv 2) pe_int (fun _ _ => rfl)) pa_nil))))) pss_nil)
      (pss_cons (ps_if (pt_cmpR op_eq (pe_callB call_len_seq rfl ml PySem.boot_len (pa_cons (pv 2) pa_nil)) pe_int (nomark _)) (pss_one (ps_ret (pe_callV (i := 3) hr rfl (Or.inl rfl) pass0 (pa_cons (pv 0) (pa_cons (pe_ix ix_list (pv 2) pe_int (fun _ _ => rfl)) (pa_cons (pe_ix ix_list (pv 2) pe_int (fun _ _ => rfl)) pa_nil)))))) pss_nil)
      (pss_one (ps_ret (pe_callV (i := 3) hr rfl (Or.inl rfl) pass0 (pa_cons (pv 0) (pa_cons (pe_ix ix_list (pv 2) pe_int (fun _ _ => rfl)) (pa_cons (pe_ix ix_list (pv 2) pe_int (fun _ _ => rfl)) (pa_cons (pe_ix ix_list (pv 2) pe_int (fun _ _ => rfl)) pa_nil)))))))))), ?_⟩
    refine ⟨_, rfl, ac, _, _, _, rfl, rfl, kA.sq, hat, ?_⟩
    have hS : SqL K H gl (args.map V.int) := SqL.of hgl
    rcases req_len rq with rfl | ⟨x, rfl⟩ | ⟨x, y, rfl⟩ | ⟨x, y, z, rfl⟩
    · refine r_len rfl hS (iteT ?_)
      exact ⟨g, rfl, fdg, psg, spg, Fg, kpg, bdg, _, rfl, hD⟩
    · refine r_len rfl hS (iteF ?_)
      refine r_len rfl hS (iteT ?_)
      exact ⟨g, rfl, fdg, psg, spg, Fg, kpg, bdg, _, rfl, r_at rfl hS rfl hD⟩
    · refine r_len rfl hS (iteF ?_)
      refine r_len rfl hS (iteF ?_)
      refine r_len rfl hS (iteT ?_)
      exact ⟨g, rfl, fdg, psg, spg, Fg, kpg, bdg, _, rfl, r_at rfl hS rfl (r_at rfl hS rfl hD)⟩
    · refine r_len rfl hS (iteF ?_)
      refine r_len rfl hS (iteF ?_)
      refine r_len rfl hS (iteF ?_)
      exact ⟨g, rfl, fdg, psg, spg, Fg, kpg, bdg, _, rfl, r_at rfl hS rfl (r_at rfl hS rfl (r_at rfl hS rfl hD))⟩
end
end Pl

set_option Elab.async false
set_option linter.all false
set_option maxRecDepth 100000
set_option maxHeartbeats 2000000
namespace Pl
open PySem PySem.Spec PyProof.Rows L2
noncomputable def asksL : List V := [.int 7, .int 8, .int 9, .int 10, .int 11, .int 12, .int 14, .int 17, .int 18, .int 19]
theorem asks_in {p : Int} {args : List Int} {c : Kp318.Call} (r : Mth.Req p args c) : inV (.int p) asksL = asks p := by
  cases r <;> rfl
theorem step_none {p : Int} {args : List Int} {c : Kp318.Call} (r : Mth.Req p args c) (h : p ≠ 0) : Kp318.step none c = (none, Kp318.say (-11)) := by
  cases r <;> first | exact absurd rfl h | rfl
theorem step_noplans {p : Int} {args : List Int} {c : Kp318.Call} (r : Mth.Req p args c) (h : asks p = true) {u : Kp318.Watch} (hu : u.plans.isEmpty = true) : Kp318.step (some u) c = (some u, Kp318.say (-6)) := by
  cases r <;> first
    | (exact absurd h (by decide))
    | (show (if u.plans.isEmpty = true then _ else _) = _
       rw [if_pos hu])
theorem Req.zero {p : Int} {args : List Int} {c : Kp318.Call} (r : Mth.Req p args c) : asks p = true → p ≠ 0 := by
  intro h e
  subst e
  exact absurd h (by decide)
section
variable {P : Program} {w : World} {K : PySem.W.Frag} {mg : Str → Option Value} {base : Heap} {f : Addr} {fd : FuncData}
theorem LotsAt.begun {C a pl : Addr} {H : Hp} {st : Kp318.State} (L : LotsAt C H a pl st) : ∃ dx fs, H a = some (.ins C dx fs) ∧ fs.lookup ("begun" : Str) = some (.bl st.isSome) ∧ fs.lookup ("plans" : Str) = some (.ref pl) := by
  obtain ⟨dx, ho⟩ := L.obj
  refine ⟨dx, _, ho, ?_, ?_⟩
  · cases st with
    | none => exact lf_begun _ _ _ _ _
    | some u => exact lf_begun _ _ _ _ _
  · cases st with
    | none => exact lf_plans _ _ _ _ _
    | some u => exact lf_plans _ _ _ _ _
theorem scAT : FnScope ["lots", "number", "given"] ["lots", "number", "given"] (defScope (top 62)) := ⟨rfl, rfl, rfl, by decide +kernel, rfl, by decide +kernel, by decide +kernel⟩
theorem ok_at {C ak fA : Addr} {fdA : FuncData} (F : Fun K "answer_to" "answer_to" (top 62) f fd) (T : LTxt K C) (ml : mg "len" = none) (cB : IsC mg "BEGIN" 0) (cN : IsC mg "NOT_BEGUN" (-11)) (cP : IsC mg "NO_PLANS" (-6))
    (mK : mg "ASKS_OF_PLANS" = some (.ref ak)) (kK : KT K ak asksL) (A1 : Cal P w K mg base 19 "act_on" ["lots", "number", "given"] (spAct C) fA fdA) : FnOk P w K mg base CX0 20 f fd ["lots", "number", "given"] (spAT C) := by
  refine F.ok scAT (fun vs H Q E h => ?_) (fun cdv A outer s0 H vs Q E hr h => ?_)
  · obtain ⟨a, pl, gl, st, p, args, c, rfl, _⟩ := h
    rfl
  · obtain ⟨a, pl, gl, st, p, args, c, rfl, rq, hgl, L, D⟩ := h
    obtain ⟨dx, fs, ho, hb, hpl⟩ := L.begun
    obtain ⟨rs, hl, pr⟩ := L.pls
    refine ⟨_, pss_cons (ps_if (PW.pt (pw_and (pt_cmpR op_ne (pv 1) (pe_const rfl cB) (nomark _)) (pw_and1 (pt_not (pt_val (pe_fld (pv 0) rfl)))))) (pss_one (ps_ret (pe_lst (pa_cons (pe_const rfl cN) pa_nil)))) pss_nil)
      (pss_cons (ps_if (PW.pt (pw_and (pt_cmpR op_in_seq (pv 1) (pe_glob (v := .ref ak) rfl mK rfl) (by with_unfolding_all rfl)) (pw_and1 (pt_cmpR op_eq (pe_callB call_len_seq rfl ml PySem.boot_len (pa_cons (pe_fld (pv 0) rfl) pa_nil)) pe_int (nomark _))))) (pss_one (ps_ret (pe_lst (pa_cons (pe_const rfl cP) pa_nil)))) pss_nil)
      (pss_one (ps_ret (pe_call A1.ok hr rfl A1.mg A1.kp A1.bd .nil pass0 (pa_cons (pv 0) (pa_cons (pv 1) (pa_cons (pv 2) pa_nil))))))), ?_⟩
    -- behind the first test: begun, or begin itself
    have rest : (p ≠ 0 → ∃ u, st = some u) → tSeq (tIfS (tAnd (tTest (tOp (rIn K false) (tVar 1) (tC (.ref ak)))) (tTest (tOp rEq (tCB (fun xs H Q => ∃ p ys, xs = [V.ref p] ∧ (SqL K H p ys ∨ SqT K H p ys) ∧ Q (.int ys.length) H) (tCons (tFld K (tVar 0) "plans") tNil)) (tC (.int 0))))) (tRet (tLst (tCons (tC (.int (-6))) tNil))) tNext)
        (tRet (tCall (spAct C) [] E0 (tCons (tVar 0) (tCons (tVar 1) (tCons (tVar 2) tNil))))) { nx := fun _ H' => Q .non H', rt := Q } [some (.ref a), some (.int p), some (.ref gl)] H := fun hbeg => by
      have last : Pre p st → tRet (tCall (spAct C) [] E0 (tCons (tVar 0) (tCons (tVar 1) (tCons (tVar 2) tNil)))) { nx := fun _ H' => Q .non H', rt := Q } [some (.ref a), some (.int p), some (.ref gl)] H := fun pre =>
        ⟨_, rfl, _, rfl, _, rfl, a, pl, gl, st, p, args, c, rfl, rq, hgl, L, pre, D⟩
      refine ⟨_, rfl, ak, _, rfl, .inr kK.sq, rfl, rfl, _, rfl, ?_⟩
      refine ite2 (fun c1 => ?_) (fun c1 => iteF ?_)
      · have c2 : inV (.int p) asksL = true := c1
        rw [asks_in rq] at c2
        refine ⟨_, rfl, a, C, dx, _, _, rfl, ho, T.cl, T.nP, hpl, pl, _, rfl, .inl (SqL.of hl), rfl, _, rfl, ?_⟩
        obtain ⟨u, rfl⟩ := hbeg (Req.zero rq c2)
        have elen := len_int pr
        refine ite2 (fun c3 => ?_) (fun c3 => ?_)
        · have c3' : V.int ((rs.map V.ref).length : Int) = V.int 0 := of_decide_eq_true c3
          rw [elen] at c3'
          have c4 : u.plans = [] := by
            injection c3' with z
            exact List.length_eq_zero_iff.mp (by show u.plans.length = 0; have z' : ((plS (some u)).length : Int) = 0 := z; have : plS (some u) = u.plans := rfl; rw [this] at z'; omega)
          exact ⟨by decide, fun r hr' => (D.as (step_noplans rq c2 (by rw [c4]; rfl))).one L (Same.refl H) hr'⟩
        · have c3' : ¬ V.int ((rs.map V.ref).length : Int) = V.int 0 := of_decide_eq_false (Bool.eq_false_iff.mpr c3)
          rw [elen] at c3'
          exact last ⟨hbeg, fun _ z => c3' (by rw [z]; rfl)⟩
      · have c2 : ¬ inV (.int p) asksL = true := c1
        rw [asks_in rq] at c2
        exact last ⟨hbeg, fun z => absurd z c2⟩
    refine ⟨_, rfl, rfl, _, rfl, ?_⟩
    refine ite2 (fun c1 => ?_) (fun c1 => iteF ?_)
    · have c2 : decide (V.int p = V.int 0) = false := not_t c1
      have c3 : p ≠ 0 := fun z => (of_decide_eq_false c2) (by rw [z])
      refine ⟨_, rfl, a, C, dx, _, _, rfl, ho, T.cl, T.nG, hb, _, rfl, ?_⟩
      refine ite2 (fun c4 => ?_) (fun c4 => ?_)
      · have c5 : st.isSome = false := not_t c4
        have c6 : st = none := by
          cases st with
          | none => rfl
          | some u => cases c5
        subst c6
        exact ⟨by decide, fun r hr' => (D.as (step_none rq c3)).one L (Same.refl H) hr'⟩
      · have c5 : st.isSome = true := not_f c4
        exact rest fun _ => Option.isSome_iff_exists.mp c5
    · have c2 : decide (V.int p = V.int 0) = true := not_f c1
      have c3 : p = 0 := by
        have z := of_decide_eq_true c2
        injection z
      exact rest fun z => absurd c3 z
end
end Pl

set_option Elab.async false
set_option linter.all false
set_option maxRecDepth 100000
set_option maxHeartbeats 2000000
namespace Pl
open PySem PySem.Spec PyProof.Rows L2
/-- a def of the top -/
structure TF (K : PySem.W.Frag) (mg : Str → Option Value) (x : Str) (st : Stmt) (ps : List Str) (f : Addr) (fd : FuncData) : Prop where
  m : mg x = some (.ref f)
  F : Fun K x x st f fd
  r : ∀ us : List Value, us.length = ps.length → bindArgs fd ⟨us, []⟩ = pure (ps.zip us)
/-- a method of a class -/
structure TM (K : PySem.W.Frag) (C : Addr) (x qual : Str) (st : Stmt) (ps : List Str) (f : Addr) (fd : FuncData) : Prop where
  m : Meth K C x f
  F : Fun K x qual st f fd
  b : Binds K fd ps []
/-- a class of the top -/
structure TC (K : PySem.W.Frag) (mg : Str → Option Value) (x : Str) (C : Addr) : Prop where
  m : mg x = some (.ref C)
  cl : Cls K C
  mk' : PySem.W.makesIn K C = true
  kp : PySem.W.keepIn K (.ref C) = true
theorem TF.b {K : PySem.W.Frag} {mg : Str → Option Value} {x : Str} {st : Stmt} {ps : List Str} {f : Addr} {fd : FuncData} (t : TF K mg x st ps f fd) : Binds K fd ps [] := .all t.r
theorem TF.cal {P : Program} {w : World} {K : PySem.W.Frag} {mg : Str → Option Value} {base : Heap} {x : Str} {st : Stmt} {ps : List Str} {f : Addr} {fd : FuncData} {k : Nat} {sp : Sp} (t : TF K mg x st ps f fd) (ok : FnOk P w K mg base CX0 k f fd ps sp) : Cal P w K mg base k x ps sp f fd := ⟨ok, t.m, t.F.kp, t.b⟩
/-- whatever so many values are -/
noncomputable def AllOf : Nat → (List Value → Prop) → Prop
  | 0, P => P []
  | n + 1, P => ∀ v : Value, AllOf n fun us => P (v :: us)
theorem AllOf.at_ : ∀ {n : Nat} {P : List Value → Prop}, AllOf n P → ∀ us : List Value, us.length = n → P us
  | 0, P, h, us, e => by
    rw [Mth.l0 e]
    exact h
  | n + 1, P, h, us, e => by
    cases us with
    | nil => cases e
    | cons v r => exact AllOf.at_ (h v) r (Nat.succ.inj e)
/-- the parameters of a def are bound as they are given -/
noncomputable def BindOk (x qual : Str) (st : Stmt) (ps : List Str) : Prop := ∀ (kV doc pm : Value) (an : Option Addr) (cdv ct : Value), AllOf ps.length fun us => bindArgs (PySem.W.fnOf x qual (defArgs st) (defBody st) (defScope st) .none kV doc pm an cdv ct) ⟨us, []⟩ = pure (ps.zip us)
section
variable {Goal : Prop} {K : PySem.W.Frag} {h : Heap} {mg : Str → Option Value}
theorem with_def {x : Str} {st : Stmt} (ps : List Str) {f : Addr} {oc : Value} {od an : Option Addr} {osl : Array (Option Value)} {kV doc pm cdv ct : Value} (X : K.In h) (G : h.Ns mainGlobals mg)
    (hb : BindOk x x st ps)
    (a : PySem.W.nsIn K mainGlobals x = some (some (.ref f))) (l : K.lookup f = some ⟨oc, od, .func (PySem.W.fnOf x x (defArgs st) (defBody st) (defScope st) .none kV doc pm an cdv ct), osl⟩) (c : PySem.W.codeIn K cdv x = true) (k : PySem.W.keepIn K (.ref f) = true)
    (go : ∀ fd, TF K mg x st ps f fd → Goal) : Goal := go _ ⟨PySem.W.mg_of X G a, fun_mk l c k, (hb kV doc pm an cdv ct).at_⟩
theorem with_cls {x : Str} {C : Addr} (X : K.In h) (G : h.Ns mainGlobals mg) (a : PySem.W.nsIn K mainGlobals x = some (some (.ref C))) (pg : PySem.W.plainGet K C Str.empty = true) (hd : PySem.W.hasDictIn K C = true) (po : PySem.W.plainOver K C = true)
    (sa : PySem.W.findIn K (.ref C) "__setattr__" = some (some (.builtin "object.__setattr__"))) (mk : PySem.W.makesIn K C = true) (kc : PySem.W.keepIn K (.ref C) = true) (go : TC K mg x C → Goal) : Goal := go ⟨PySem.W.mg_of X G a, ⟨pg, hd, po, sa⟩, mk, kc⟩
theorem with_meth {C : Addr} {y x qual : Str} {st : Stmt} (ps : List Str) {f : Addr} {oc : Value} {od an : Option Addr} {osl : Array (Option Value)} {kV doc pm cdv ct : Value} (tc : TC K mg y C)
    (hb : BindOk x qual st ps)
    (a : PySem.W.findIn K (.ref C) x = some (some (.ref f))) (i : PySem.W.isFn K (.ref f) = true) (l : K.lookup f = some ⟨oc, od, .func (PySem.W.fnOf x qual (defArgs st) (defBody st) (defScope st) .none kV doc pm an cdv ct), osl⟩) (c : PySem.W.codeIn K cdv qual = true) (k : PySem.W.keepIn K (.ref f) = true)
    (go : ∀ fd, TM K C x qual st ps f fd → Goal) : Goal := go _ ⟨⟨a, i, k⟩, fun_mk l c k, (fun_mk l c k).binds fun kV doc pm an cdv ct => (hb kV doc pm an cdv ct).at_⟩
theorem c_mk {x : Str} {i : Int} {t : Tok} (X : K.In h) (G : h.Ns mainGlobals mg) (a : PySem.W.nsIn K mainGlobals x = some (some (.int i t))) : IsC mg x i := ⟨t, PySem.W.mg_of X G a⟩
theorem with_tup {x : Str} (xs : List V) {a : Addr} {o : Obj} (X : K.In h) (G : h.Ns mainGlobals mg) (e : PySem.W.nsIn K mainGlobals x = some (some (.ref a))) (l : K.lookup a = some o)
    (q : o.cls = .type "tuple" ∧ ∃ (its : Array Value) (n : Nat), o.data = .seq its n ∧ its.size ≤ sizeLine ∧ Vals xs its.toList) (go : mg x = some (.ref a) ∧ KT K a xs → Goal) : Goal := by
  obtain ⟨h1, its, n, h2, h3, h4⟩ := q
  exact go ⟨PySem.W.mg_of X G e, o, its, n, l, h1, h2, h3, h4⟩
/-- a tuple of the top that holds nothing but objects -/
noncomputable def refs : List Value → List Addr
  | [] => []
  | .ref a :: r => a :: refs r
  | _ :: r => refs r
noncomputable def allRefs : List Value → Bool
  | [] => true
  | .ref _ :: r => allRefs r
  | _ :: _ => false
noncomputable def itemsOf (o : Obj) : List Value := match o.data with
  | .seq its _ => its.toList
  | _ => []
theorem vals_refs : ∀ l : List Value, allRefs l = true → Vals ((refs l).map V.ref) l
  | [], _ => .nil
  | v :: r, h => by
    cases v with
    | ref a =>
      have h' : allRefs r = true := h
      exact .cons rfl (vals_refs r h')
    | _ => cases h
theorem with_refs {x : Str} {a : Addr} {o : Obj} (X : K.In h) (G : h.Ns mainGlobals mg) (e : PySem.W.nsIn K mainGlobals x = some (some (.ref a))) (l : K.lookup a = some o)
    (q : o.cls = .type "tuple" ∧ (∃ (its : Array Value) (n : Nat), o.data = .seq its n ∧ its.size ≤ sizeLine ∧ itemsOf o = its.toList) ∧ allRefs (itemsOf o) = true) (go : mg x = some (.ref a) ∧ KT K a ((refs (itemsOf o)).map V.ref) → Goal) : Goal := by
  obtain ⟨h1, ⟨its, n, h2, h3, h4⟩, h5⟩ := q
  refine go ⟨PySem.W.mg_of X G e, o, its, n, l, h1, h2, h3, ?_⟩
  rw [← h4]
  exact vals_refs _ h5
end
theorem finish {P : Program} {w : World} {K : PySem.W.Frag} {mg : Str → Option Value} {fa f1 f2 f3 f4 f5 f6 f7 f8 f9 f10 f12 f12_0 f12_1 f12_2 f12_3 f12_4 f12_5 f14 f15 f28 f28_0 f29 f30 f31 f32 f33 f34 f35 f36 f37 f38 f39 f40 f41 f42 f43 f44 f45 f46 f47 f48 f49 f50 f51 f52 f53 f54 f55 f56 f58 f59 f60 f61 f62 f63 : Addr}
    {fd1 fd2 fd3 fd4 fd5 fd6 fd7 fd8 fd9 fd10 fd12_0 fd12_1 fd12_2 fd12_3 fd12_4 fd12_5 fd14 fd15 fd28_0 fd29 fd30 fd31 fd32 fd33 fd34 fd35 fd36 fd37 fd38 fd39 fd40 fd41 fd42 fd43 fd44 fd45 fd46 fd47 fd48 fd49 fd50 fd51 fd52 fd53 fd54 fd55 fd56 fd61 fd62 fd63 : FuncData} (hfa : mg "answers" = some (.ref fa))
    (m_len : mg "len" = none) (m_range : mg "range" = none) (m_max : mg "max" = none) (m_sum : mg "sum" = none)
    (m_abs : mg "abs" = none) (t1 : TF K mg "has_day" (top 1) ["days_of_set", "day"] f1 fd1) (t2 : TF K mg "fits" (top 2) ["days_of_set", "days"] f2 fd2) (t3 : TF K mg "size" (top 3) ["days_of_set"] f3 fd3)
    (t4 : TF K mg "sets_up_to" (top 4) ["days", "looks"] f4 fd4) (t5 : TF K mg "power" (top 5) ["base", "times"] f5 fd5) (t6 : TF K mg "best_plan" (top 6) ["days", "looks", "fine"] f6 fd6) (t7 : TF K mg "looking" (top 7) ["plans", "day"] f7 fd7)
    (t8 : TF K mg "resting" (top 8) ["plans", "day"] f8 fd8) (t9 : TF K mg "agreeing" (top 9) ["plans", "day", "seen"] f9 fd9) (t10 : TF K mg "weight_of" (top 10) ["plans"] f10 fd10) (t12 : TC K mg "Game" f12)
    (t12_0 : TM K f12 "__init__" "Game.__init__" (inClass (top 12) 0) ["self", "days", "fine"] f12_0 fd12_0) (t12_1 : TM K f12 "ended" "Game.ended" (inClass (top 12) 1) ["self", "plans", "day", "misdeeds"] f12_1 fd12_1) (t12_2 : TM K f12 "best" "Game.best" (inClass (top 12) 2) ["self", "plans", "day", "misdeeds"] f12_2 fd12_2) (t12_3 : TM K f12 "daring" "Game.daring" (inClass (top 12) 3) ["self", "plans", "day", "misdeeds"] f12_3 fd12_3)
    (t12_4 : TM K f12 "waiting" "Game.waiting" (inClass (top 12) 4) ["self", "plans", "day", "misdeeds"] f12_4 fd12_4) (t12_5 : TM K f12 "played" "Game.played" (inClass (top 12) 5) ["self", "plans", "day", "misdeeds"] f12_5 fd12_5) (t14 : TF K mg "common_divisor" (top 14) ["left", "right"] f14 fd14) (t15 : TF K mg "fraction" (top 15) ["above", "below"] f15 fd15)
    (t17 : IsC mg "NO_SUCH_PLAN" (-2)) (t18 : IsC mg "NO_PLANS" (-6)) (t19 : IsC mg "NOT_BEGUN" (-11)) (t20 : IsC mg "OUT_OF_RANGE" (-22))
    (t21 : IsC mg "TOO_MANY_PLANS" (-28)) (t22 : IsC mg "NEVER_SEEN_SO" (-33)) (t23 : IsC mg "MOST_DAYS" (6)) (t24 : IsC mg "MOST_MISDEEDS" (6))
    (t25 : IsC mg "MOST_FINE" (9)) (t26 : IsC mg "MOST_PLANS" (10)) (t27 : IsC mg "MOST_WEIGHT" (1000)) (t28 : TC K mg "Lots" f28)
    (t28_0 : TM K f28 "__init__" "Lots.__init__" (inClass (top 28) 0) ["self"] f28_0 fd28_0) (t29 : TF K mg "is_misdeeds" (top 29) ["number"] f29 fd29) (t30 : TF K mg "is_fine" (top 30) ["number"] f30 fd30) (t31 : TF K mg "is_weight" (top 31) ["number"] f31 fd31)
    (t32 : TF K mg "begin" (top 32) ["lots", "days", "misdeeds", "fine"] f32 fd32) (t33 : TF K mg "add_plan" (top 33) ["lots", "days_of_set", "weight"] f33 fd33) (t34 : TF K mg "drop_plan" (top 34) ["lots", "place"] f34 fd34) (t35 : TF K mg "change_weight" (top 35) ["lots", "place", "weight"] f35 fd35)
    (t36 : TF K mg "change_misdeeds" (top 36) ["lots", "misdeeds"] f36 fd36) (t37 : TF K mg "change_fine" (top 37) ["lots", "fine"] f37 fd37) (t38 : TF K mg "make_fair" (top 38) ["lots", "looks"] f38 fd38) (t39 : TF K mg "told_fraction" (top 39) ["above", "below"] f39 fd39)
    (t40 : TF K mg "best_gain" (top 40) ["lots", "plans"] f40 fd40) (t41 : TF K mg "tell_reply" (top 41) ["lots"] f41 fd41) (t42 : TF K mg "tell_dares" (top 42) ["lots"] f42 fd42) (t43 : TF K mg "tell_seen" (top 43) ["lots", "day", "seen", "misdeeds"] f43 fd43)
    (t44 : TF K mg "tell_looked" (top 44) ["lots", "day"] f44 fd44) (t45 : TF K mg "tell_mean" (top 45) ["lots"] f45 fd45) (t46 : TF K mg "most_looks" (top 46) ["plans"] f46 fd46) (t47 : TF K mg "tell_most" (top 47) ["lots"] f47 fd47)
    (t48 : TF K mg "tell_worth" (top 48) ["lots", "looks"] f48 fd48) (t49 : TF K mg "tell_over" (top 49) ["lots"] f49 fd49) (t50 : TF K mg "tell_best_chance" (top 50) ["lots", "looks", "days_of_set"] f50 fd50) (t51 : TF K mg "tell_best_looked" (top 51) ["lots", "looks"] f51 fd51)
    (t52 : TF K mg "outcome" (top 52) ["lots"] f52 fd52) (t53 : TF K mg "tell_caught" (top 53) ["lots"] f53 fd53) (t54 : TF K mg "tell_done" (top 54) ["lots"] f54 fd54) (t55 : TF K mg "tell_unlooked" (top 55) ["lots"] f55 fd55)
    (t56 : TF K mg "tell_all" (top 56) ["lots"] f56 fd56) (t57 : IsC mg "BEGIN" (0)) (t58 : mg "TAKES" = some (.ref f58) ∧ KT K f58 takes) (t59 : mg "ASKS_OF_PLANS" = some (.ref f59) ∧ KT K f59 asksL)
    (t60 : mg "ACTS" = some (.ref f60) ∧ KT K f60 (List.map V.ref [f32, f33, f34, f35, f36, f37, f38, f41, f42, f43, f44, f45, f47, f48, f49, f50, f51, f53, f54, f55, f56])) (t61 : TF K mg "act_on" (top 61) ["lots", "number", "given"] f61 fd61) (t62 : TF K mg "answer_to" (top 62) ["lots", "number", "given"] f62 fd62) (t63 : TF K mg "answers" (top 63) ["calls"] f63 fd63)
    (q1 : PySem.W.findIn K (.ref f12) "days" = some none) (q2 : PySem.W.findIn K (.ref f12) "fine" = some none) (q3 : PySem.W.findIn K (.ref f28) "begun" = some none) (q4 : PySem.W.findIn K (.ref f28) "days" = some none)
    (q5 : PySem.W.findIn K (.ref f28) "misdeeds" = some none) (q6 : PySem.W.findIn K (.ref f28) "fine" = some none) (q7 : PySem.W.findIn K (.ref f28) "plans" = some none) :
    ∃ fd : FuncData, (∀ (s : Shared) (us : List Value), us.length = (["calls"] : List Str).length → BindsTo s fd ⟨us, []⟩ ((["calls"] : List Str).zip us)) ∧ ∀ base : Heap, K.In base → base.Ns mainGlobals mg → FnOk P w K mg base CX0 21 fa fd ["calls"] (spAll K) := by
  have e := hfa.symm.trans t63.m
  cases e
  refine ⟨fd63, fun s us hu => .of_eq (t63.r us hu), fun base _ _ => ?_⟩
  have c1 := t1.cal (ok_has (P := P) (w := w) (base := base) t1.F)
  have c2 := t2.cal (ok_fits (P := P) (w := w) (base := base) t2.F)
  have c3 := t3.cal (ok_size (P := P) (w := w) (base := base) t3.F)
  have c5 := t5.cal (ok_pow (P := P) (w := w) (base := base) t5.F m_range)
  have c4 := t4.cal (ok_sets t4.F m_range c3)
  have c6 := t6.cal (ok_bestPlan t6.F c3 c4 c5)
  have c7 := t7.cal (ok_looking t7.F c1)
  have c8 := t8.cal (ok_resting t8.F c1)
  have c9 := t9.cal (ok_agreeing (P := P) (w := w) (base := base) t9.F)
  have c10 := t10.cal (ok_weight (P := P) (w := w) (base := base) t10.F m_sum)
  have c14 := t14.cal (ok_gcd (P := P) (w := w) (base := base) t14.F)
  have c15 := t15.cal (ok_frac t15.F m_abs c14)
  have c39 := t39.cal (ok_told t39.F c15)
  have GT : GTxt K f12 := ⟨t12.cl, q1, q2⟩
  have LT : LTxt K f28 := ⟨t28.cl, q3, q4, q5, q6, q7⟩
  have oI := ok_gInit (P := P) (w := w) (mg := mg) (base := base) t12_0.F GT
  have oE := ok_end (P := P) (w := w) (mg := mg) (base := base) t12_1.F GT m_len
  have GG : GF P w K mg base f12 f12_1 f12_2 f12_3 f12_4 f12_5 f7 f8 f10 fd12_1 fd12_2 fd12_3 fd12_4 fd12_5 fd7 fd8 fd10 := ⟨GT, ⟨oE, t12_1.m, t12_1.b⟩, t12_2.F, t12_3.F, t12_4.F, t12_5.F, t12_2.m, t12_3.m, t12_4.m, t12_5.m, t12_2.b, t12_3.b, t12_4.b, t12_5.b, m_max, c7, c8, c10⟩
  obtain ⟨gB, gD, gW⟩ := game_all GG 7
  have gP := played_all GG 7
  have X : Kit P w K mg base f28 f12 f12_0 f12_2 f12_3 f12_4 f12_5 f7 f8 f10 f39 fd12_0 fd12_2 fd12_3 fd12_4 fd12_5 fd7 fd8 fd10 fd39 :=
    ⟨LT, GT, ⟨t12.mk', t12_0.m.at_, t12_0.m.fn, t12.kp⟩, oI, t12_0.b, t12.m, ⟨gB, t12_2.m, t12_2.b⟩, ⟨gD, t12_3.m, t12_3.b⟩, ⟨gW, t12_4.m, t12_4.b⟩, ⟨gP, t12_5.m, t12_5.b⟩, c7, c8, c10, c39⟩
  have c29 := t29.cal (ok_mis (P := P) (w := w) (base := base) t29.F t24)
  have c30 := t30.cal (ok_fine (P := P) (w := w) (base := base) t30.F t25)
  have c31 := t31.cal (ok_wt (P := P) (w := w) (base := base) t31.F t27)
  have c40 := t40.cal (ok_gain t40.F X)
  have c46 := t46.cal (ok_mostL t46.F m_max c3)
  have c52 := t52.cal (ok_out t52.F X)
  have good : ∀ (p : Int) (args : List Int) (c : Kp318.Call), Mth.Req p args c → ∃ g, atI (List.map V.ref [f32, f33, f34, f35, f36, f37, f38, f41, f42, f43, f44, f45, f47, f48, f49, f50, f51, f53, f54, f55, f56]) p = some (.ref g) ∧ Good P w K mg base f28 p args c g := by
    intro p args c rq
    cases rq with
    | begin_ => exact ⟨f32, rfl, good_begin (ok_begin t32.F LT t23 t20 c29 c30) (by decide) t32.F.kp t32.b⟩
    | plan => exact ⟨f33, rfl, good2 (ok_add t33.F LT m_len t26 t20 t21 c2 c31) (by decide) t33.F.kp t33.b (by decide) (by decide)⟩
    | drop => exact ⟨f34, rfl, good1 (ok_drop t34.F LT m_len t17) (by decide) t34.F.kp t34.b (by decide) (by decide)⟩
    | weight => exact ⟨f35, rfl, good2 (ok_cw t35.F LT m_len t17 t20 c31) (by decide) t35.F.kp t35.b (by decide) (by decide)⟩
    | misdeeds => exact ⟨f36, rfl, good1 (ok_cm t36.F LT t20 c29) (by decide) t36.F.kp t36.b (by decide) (by decide)⟩
    | fine => exact ⟨f37, rfl, good1 (ok_cf t37.F LT t20 c30) (by decide) t37.F.kp t37.b (by decide) (by decide)⟩
    | fair => exact ⟨f38, rfl, good1 (ok_fair t38.F LT m_len t26 t20 t21 c4 c6) (by decide) t38.F.kp t38.b (by decide) (by decide)⟩
    | reply => exact ⟨f41, rfl, good0 (ok_reply t41.F X c40) (by decide) t41.F.kp t41.b (by decide) (by decide)⟩
    | dares => exact ⟨f42, rfl, good0 (ok_dares t42.F X) (by decide) t42.F.kp t42.b (by decide) (by decide)⟩
    | seen => exact ⟨f43, rfl, good3 (ok_seen t43.F m_len t20 t22 c2 c29 c9 X) (by decide) t43.F.kp t43.b (by decide) (by decide)⟩
    | looked => exact ⟨f44, rfl, good1 (ok_looked t44.F t20 X) (by decide) t44.F.kp t44.b (by decide) (by decide)⟩
    | mean => exact ⟨f45, rfl, good0 (ok_mean t45.F m_sum c3 X) (by decide) t45.F.kp t45.b (by decide) (by decide)⟩
    | most => exact ⟨f47, rfl, good0 (ok_most t47.F c46 X) (by decide) t47.F.kp t47.b (by decide) (by decide)⟩
    | worth => exact ⟨f48, rfl, good1 (ok_worth t48.F t20 c6 c40 X) (by decide) t48.F.kp t48.b (by decide) (by decide)⟩
    | over => exact ⟨f49, rfl, good0 (ok_over t49.F c6 c40 c46 X) (by decide) t49.F.kp t49.b (by decide) (by decide)⟩
    | bestChance => exact ⟨f50, rfl, good2 (ok_chance t50.F t20 c6 c2 X) (by decide) t50.F.kp t50.b (by decide) (by decide)⟩
    | bestLooked => exact ⟨f51, rfl, good1 (ok_bestLooked t51.F t20 c6 X) (by decide) t51.F.kp t51.b (by decide) (by decide)⟩
    | caught => exact ⟨f53, rfl, good0 (ok_caught t53.F c52 X) (by decide) t53.F.kp t53.b (by decide) (by decide)⟩
    | done => exact ⟨f54, rfl, good0 (ok_done t54.F c52 X) (by decide) t54.F.kp t54.b (by decide) (by decide)⟩
    | unlooked => exact ⟨f55, rfl, good0 (ok_unlooked t55.F X) (by decide) t55.F.kp t55.b (by decide) (by decide)⟩
    | told => exact ⟨f56, rfl, good0 (ok_all t56.F LT m_len) (by decide) t56.F.kp t56.b (by decide) (by decide)⟩
  have c61 := t61.cal (ok_act t61.F m_len t60.1 t60.2 good)
  have c62 := t62.cal (ok_at t62.F LT m_len t57 t19 t18 t59.1 t59.2 c61)
  exact ok_answers (k := 20) (by decide) t63.F m_len ⟨t28.mk', t28_0.m.at_, t28_0.m.fn, t28.kp⟩ (ok_lInit t28_0.F LT) t28_0.b t28.m t58.1 t58.2 c62
end Pl

open PySem PySem.W PyProof.Rows
set_option Elab.async false
set_option maxRecDepth 100000 in
set_option maxHeartbeats 0 in
theorem PySem.Challenge.cw_plansoflooks_s01_answers_holds : PySem.Challenge.rw_plansoflooks_s01_answers.Holds := by
  w_on; k_headS; (case hw => exact ⟨[.list [.int 20]], by decide +kernel, by decide +kernel⟩)
  k_fillS
  refine L2.walk_specK (r := PySem.Challenge.rw_plansoflooks_s01_answers) (k := 21) (CX := L2.CX0) (ps := ["calls"]) (sp := Pl.spAll) (by decide +kernel) rfl rfl ⟨rfl, by decide, by decide⟩ (fun w h Y => PySem.W.kIn_of Y) ?F ?S (fun _ _ _ _ z => z)
  case F =>
    intro w mg fa h Y KX G hmg
    have m_len : mg "len" = none := PySem.W.mg_none_of KX G (by k_is)
    have m_range : mg "range" = none := PySem.W.mg_none_of KX G (by k_is)
    have m_max : mg "max" = none := PySem.W.mg_none_of KX G (by k_is)
    have m_sum : mg "sum" = none := PySem.W.mg_none_of KX G (by k_is)
    have m_abs : mg "abs" = none := PySem.W.mg_none_of KX G (by k_is)
    refine' Pl.with_def (x := "has_day") (st := Pl.top 1) ["days_of_set", "day"] KX G (fun _ _ _ _ _ _ _ _ => rfl) ?a1 ?l1 ?c1 ?k1 (fun fd1 t1 => ?_)
    (case a1 => k_is); (case l1 => k_is); (case c1 => k_is); (case k1 => k_is)
    refine' Pl.with_def (x := "fits") (st := Pl.top 2) ["days_of_set", "days"] KX G (fun _ _ _ _ _ _ _ _ => rfl) ?a2 ?l2 ?c2 ?k2 (fun fd2 t2 => ?_)
    (case a2 => k_is); (case l2 => k_is); (case c2 => k_is); (case k2 => k_is)
    refine' Pl.with_def (x := "size") (st := Pl.top 3) ["days_of_set"] KX G (fun _ _ _ _ _ _ _ => rfl) ?a3 ?l3 ?c3 ?k3 (fun fd3 t3 => ?_)
    (case a3 => k_is); (case l3 => k_is); (case c3 => k_is); (case k3 => k_is)
    refine' Pl.with_def (x := "sets_up_to") (st := Pl.top 4) ["days", "looks"] KX G (fun _ _ _ _ _ _ _ _ => rfl) ?a4 ?l4 ?c4 ?k4 (fun fd4 t4 => ?_)
    (case a4 => k_is); (case l4 => k_is); (case c4 => k_is); (case k4 => k_is)
    refine' Pl.with_def (x := "power") (st := Pl.top 5) ["base", "times"] KX G (fun _ _ _ _ _ _ _ _ => rfl) ?a5 ?l5 ?c5 ?k5 (fun fd5 t5 => ?_)
    (case a5 => k_is); (case l5 => k_is); (case c5 => k_is); (case k5 => k_is)
    refine' Pl.with_def (x := "best_plan") (st := Pl.top 6) ["days", "looks", "fine"] KX G (fun _ _ _ _ _ _ _ _ _ => rfl) ?a6 ?l6 ?c6 ?k6 (fun fd6 t6 => ?_)
    (case a6 => k_is); (case l6 => k_is); (case c6 => k_is); (case k6 => k_is)
    refine' Pl.with_def (x := "looking") (st := Pl.top 7) ["plans", "day"] KX G (fun _ _ _ _ _ _ _ _ => rfl) ?a7 ?l7 ?c7 ?k7 (fun fd7 t7 => ?_)
    (case a7 => k_is); (case l7 => k_is); (case c7 => k_is); (case k7 => k_is)
    refine' Pl.with_def (x := "resting") (st := Pl.top 8) ["plans", "day"] KX G (fun _ _ _ _ _ _ _ _ => rfl) ?a8 ?l8 ?c8 ?k8 (fun fd8 t8 => ?_)
    (case a8 => k_is); (case l8 => k_is); (case c8 => k_is); (case k8 => k_is)
    refine' Pl.with_def (x := "agreeing") (st := Pl.top 9) ["plans", "day", "seen"] KX G (fun _ _ _ _ _ _ _ _ _ => rfl) ?a9 ?l9 ?c9 ?k9 (fun fd9 t9 => ?_)
    (case a9 => k_is); (case l9 => k_is); (case c9 => k_is); (case k9 => k_is)
    refine' Pl.with_def (x := "weight_of") (st := Pl.top 10) ["plans"] KX G (fun _ _ _ _ _ _ _ => rfl) ?a10 ?l10 ?c10 ?k10 (fun fd10 t10 => ?_)
    (case a10 => k_is); (case l10 => k_is); (case c10 => k_is); (case k10 => k_is)
    refine' Pl.with_cls (x := "Game") KX G ?ca12 ?cp12 ?ch12 ?co12 ?cs12 ?cm12 ?ck12 (fun t12 => ?_)
    (case ca12 => k_is); (case cp12 => k_is); (case ch12 => k_is); (case co12 => k_is); (case cs12 => k_is); (case cm12 => k_is); (case ck12 => k_is)
    refine' Pl.with_meth (x := "__init__") (qual := "Game.__init__") (st := L2.inClass (Pl.top 12) 0) ["self", "days", "fine"] t12 (fun _ _ _ _ _ _ _ _ _ => rfl) ?a12_0 ?i12_0 ?l12_0 ?c12_0 ?k12_0 (fun fd12_0 t12_0 => ?_)
    (case a12_0 => k_is); (case i12_0 => k_is); (case l12_0 => k_is); (case c12_0 => k_is); (case k12_0 => k_is)
    refine' Pl.with_meth (x := "ended") (qual := "Game.ended") (st := L2.inClass (Pl.top 12) 1) ["self", "plans", "day", "misdeeds"] t12 (fun _ _ _ _ _ _ _ _ _ _ => rfl) ?a12_1 ?i12_1 ?l12_1 ?c12_1 ?k12_1 (fun fd12_1 t12_1 => ?_)
    (case a12_1 => k_is); (case i12_1 => k_is); (case l12_1 => k_is); (case c12_1 => k_is); (case k12_1 => k_is)
    refine' Pl.with_meth (x := "best") (qual := "Game.best") (st := L2.inClass (Pl.top 12) 2) ["self", "plans", "day", "misdeeds"] t12 (fun _ _ _ _ _ _ _ _ _ _ => rfl) ?a12_2 ?i12_2 ?l12_2 ?c12_2 ?k12_2 (fun fd12_2 t12_2 => ?_)
    (case a12_2 => k_is); (case i12_2 => k_is); (case l12_2 => k_is); (case c12_2 => k_is); (case k12_2 => k_is)
    refine' Pl.with_meth (x := "daring") (qual := "Game.daring") (st := L2.inClass (Pl.top 12) 3) ["self", "plans", "day", "misdeeds"] t12 (fun _ _ _ _ _ _ _ _ _ _ => rfl) ?a12_3 ?i12_3 ?l12_3 ?c12_3 ?k12_3 (fun fd12_3 t12_3 => ?_)
    (case a12_3 => k_is); (case i12_3 => k_is); (case l12_3 => k_is); (case c12_3 => k_is); (case k12_3 => k_is)
    refine' Pl.with_meth (x := "waiting") (qual := "Game.waiting") (st := L2.inClass (Pl.top 12) 4) ["self", "plans", "day", "misdeeds"] t12 (fun _ _ _ _ _ _ _ _ _ _ => rfl) ?a12_4 ?i12_4 ?l12_4 ?c12_4 ?k12_4 (fun fd12_4 t12_4 => ?_)
    (case a12_4 => k_is); (case i12_4 => k_is); (case l12_4 => k_is); (case c12_4 => k_is); (case k12_4 => k_is)
    refine' Pl.with_meth (x := "played") (qual := "Game.played") (st := L2.inClass (Pl.top 12) 5) ["self", "plans", "day", "misdeeds"] t12 (fun _ _ _ _ _ _ _ _ _ _ => rfl) ?a12_5 ?i12_5 ?l12_5 ?c12_5 ?k12_5 (fun fd12_5 t12_5 => ?_)
    (case a12_5 => k_is); (case i12_5 => k_is); (case l12_5 => k_is); (case c12_5 => k_is); (case k12_5 => k_is)
    refine' Pl.with_def (x := "common_divisor") (st := Pl.top 14) ["left", "right"] KX G (fun _ _ _ _ _ _ _ _ => rfl) ?a14 ?l14 ?c14 ?k14 (fun fd14 t14 => ?_)
    (case a14 => k_is); (case l14 => k_is); (case c14 => k_is); (case k14 => k_is)
    refine' Pl.with_def (x := "fraction") (st := Pl.top 15) ["above", "below"] KX G (fun _ _ _ _ _ _ _ _ => rfl) ?a15 ?l15 ?c15 ?k15 (fun fd15 t15 => ?_)
    (case a15 => k_is); (case l15 => k_is); (case c15 => k_is); (case k15 => k_is)
    have t17 : Pl.IsC mg "NO_SUCH_PLAN" (-2) := by
      refine' Pl.c_mk KX G ?a17
      case a17 => k_is
    have t18 : Pl.IsC mg "NO_PLANS" (-6) := by
      refine' Pl.c_mk KX G ?a18
      case a18 => k_is
    have t19 : Pl.IsC mg "NOT_BEGUN" (-11) := by
      refine' Pl.c_mk KX G ?a19
      case a19 => k_is
    have t20 : Pl.IsC mg "OUT_OF_RANGE" (-22) := by
      refine' Pl.c_mk KX G ?a20
      case a20 => k_is
    have t21 : Pl.IsC mg "TOO_MANY_PLANS" (-28) := by
      refine' Pl.c_mk KX G ?a21
      case a21 => k_is
    have t22 : Pl.IsC mg "NEVER_SEEN_SO" (-33) := by
      refine' Pl.c_mk KX G ?a22
      case a22 => k_is
    have t23 : Pl.IsC mg "MOST_DAYS" (6) := by
      refine' Pl.c_mk KX G ?a23
      case a23 => k_is
    have t24 : Pl.IsC mg "MOST_MISDEEDS" (6) := by
      refine' Pl.c_mk KX G ?a24
      case a24 => k_is
    have t25 : Pl.IsC mg "MOST_FINE" (9) := by
      refine' Pl.c_mk KX G ?a25
      case a25 => k_is
    have t26 : Pl.IsC mg "MOST_PLANS" (10) := by
      refine' Pl.c_mk KX G ?a26
      case a26 => k_is
    have t27 : Pl.IsC mg "MOST_WEIGHT" (1000) := by
      refine' Pl.c_mk KX G ?a27
      case a27 => k_is
    refine' Pl.with_cls (x := "Lots") KX G ?ca28 ?cp28 ?ch28 ?co28 ?cs28 ?cm28 ?ck28 (fun t28 => ?_)
    (case ca28 => k_is); (case cp28 => k_is); (case ch28 => k_is); (case co28 => k_is); (case cs28 => k_is); (case cm28 => k_is); (case ck28 => k_is)
    refine' Pl.with_meth (x := "__init__") (qual := "Lots.__init__") (st := L2.inClass (Pl.top 28) 0) ["self"] t28 (fun _ _ _ _ _ _ _ => rfl) ?a28_0 ?i28_0 ?l28_0 ?c28_0 ?k28_0 (fun fd28_0 t28_0 => ?_)
    (case a28_0 => k_is); (case i28_0 => k_is); (case l28_0 => k_is); (case c28_0 => k_is); (case k28_0 => k_is)
    refine' Pl.with_def (x := "is_misdeeds") (st := Pl.top 29) ["number"] KX G (fun _ _ _ _ _ _ _ => rfl) ?a29 ?l29 ?c29 ?k29 (fun fd29 t29 => ?_)
    (case a29 => k_is); (case l29 => k_is); (case c29 => k_is); (case k29 => k_is)
    refine' Pl.with_def (x := "is_fine") (st := Pl.top 30) ["number"] KX G (fun _ _ _ _ _ _ _ => rfl) ?a30 ?l30 ?c30 ?k30 (fun fd30 t30 => ?_)
    (case a30 => k_is); (case l30 => k_is); (case c30 => k_is); (case k30 => k_is)
    refine' Pl.with_def (x := "is_weight") (st := Pl.top 31) ["number"] KX G (fun _ _ _ _ _ _ _ => rfl) ?a31 ?l31 ?c31 ?k31 (fun fd31 t31 => ?_)
    (case a31 => k_is); (case l31 => k_is); (case c31 => k_is); (case k31 => k_is)
    refine' Pl.with_def (x := "begin") (st := Pl.top 32) ["lots", "days", "misdeeds", "fine"] KX G (fun _ _ _ _ _ _ _ _ _ _ => rfl) ?a32 ?l32 ?c32 ?k32 (fun fd32 t32 => ?_)
    (case a32 => k_is); (case l32 => k_is); (case c32 => k_is); (case k32 => k_is)
    refine' Pl.with_def (x := "add_plan") (st := Pl.top 33) ["lots", "days_of_set", "weight"] KX G (fun _ _ _ _ _ _ _ _ _ => rfl) ?a33 ?l33 ?c33 ?k33 (fun fd33 t33 => ?_)
    (case a33 => k_is); (case l33 => k_is); (case c33 => k_is); (case k33 => k_is)
    refine' Pl.with_def (x := "drop_plan") (st := Pl.top 34) ["lots", "place"] KX G (fun _ _ _ _ _ _ _ _ => rfl) ?a34 ?l34 ?c34 ?k34 (fun fd34 t34 => ?_)
    (case a34 => k_is); (case l34 => k_is); (case c34 => k_is); (case k34 => k_is)
    refine' Pl.with_def (x := "change_weight") (st := Pl.top 35) ["lots", "place", "weight"] KX G (fun _ _ _ _ _ _ _ _ _ => rfl) ?a35 ?l35 ?c35 ?k35 (fun fd35 t35 => ?_)
    (case a35 => k_is); (case l35 => k_is); (case c35 => k_is); (case k35 => k_is)
    refine' Pl.with_def (x := "change_misdeeds") (st := Pl.top 36) ["lots", "misdeeds"] KX G (fun _ _ _ _ _ _ _ _ => rfl) ?a36 ?l36 ?c36 ?k36 (fun fd36 t36 => ?_)
    (case a36 => k_is); (case l36 => k_is); (case c36 => k_is); (case k36 => k_is)
    refine' Pl.with_def (x := "change_fine") (st := Pl.top 37) ["lots", "fine"] KX G (fun _ _ _ _ _ _ _ _ => rfl) ?a37 ?l37 ?c37 ?k37 (fun fd37 t37 => ?_)
    (case a37 => k_is); (case l37 => k_is); (case c37 => k_is); (case k37 => k_is)
    refine' Pl.with_def (x := "make_fair") (st := Pl.top 38) ["lots", "looks"] KX G (fun _ _ _ _ _ _ _ _ => rfl) ?a38 ?l38 ?c38 ?k38 (fun fd38 t38 => ?_)
    (case a38 => k_is); (case l38 => k_is); (case c38 => k_is); (case k38 => k_is)
    refine' Pl.with_def (x := "told_fraction") (st := Pl.top 39) ["above", "below"] KX G (fun _ _ _ _ _ _ _ _ => rfl) ?a39 ?l39 ?c39 ?k39 (fun fd39 t39 => ?_)
    (case a39 => k_is); (case l39 => k_is); (case c39 => k_is); (case k39 => k_is)
    refine' Pl.with_def (x := "best_gain") (st := Pl.top 40) ["lots", "plans"] KX G (fun _ _ _ _ _ _ _ _ => rfl) ?a40 ?l40 ?c40 ?k40 (fun fd40 t40 => ?_)
    (case a40 => k_is); (case l40 => k_is); (case c40 => k_is); (case k40 => k_is)
    refine' Pl.with_def (x := "tell_reply") (st := Pl.top 41) ["lots"] KX G (fun _ _ _ _ _ _ _ => rfl) ?a41 ?l41 ?c41 ?k41 (fun fd41 t41 => ?_)
    (case a41 => k_is); (case l41 => k_is); (case c41 => k_is); (case k41 => k_is)
    refine' Pl.with_def (x := "tell_dares") (st := Pl.top 42) ["lots"] KX G (fun _ _ _ _ _ _ _ => rfl) ?a42 ?l42 ?c42 ?k42 (fun fd42 t42 => ?_)
    (case a42 => k_is); (case l42 => k_is); (case c42 => k_is); (case k42 => k_is)
    refine' Pl.with_def (x := "tell_seen") (st := Pl.top 43) ["lots", "day", "seen", "misdeeds"] KX G (fun _ _ _ _ _ _ _ _ _ _ => rfl) ?a43 ?l43 ?c43 ?k43 (fun fd43 t43 => ?_)
    (case a43 => k_is); (case l43 => k_is); (case c43 => k_is); (case k43 => k_is)
    refine' Pl.with_def (x := "tell_looked") (st := Pl.top 44) ["lots", "day"] KX G (fun _ _ _ _ _ _ _ _ => rfl) ?a44 ?l44 ?c44 ?k44 (fun fd44 t44 => ?_)
    (case a44 => k_is); (case l44 => k_is); (case c44 => k_is); (case k44 => k_is)
    refine' Pl.with_def (x := "tell_mean") (st := Pl.top 45) ["lots"] KX G (fun _ _ _ _ _ _ _ => rfl) ?a45 ?l45 ?c45 ?k45 (fun fd45 t45 => ?_)
    (case a45 => k_is); (case l45 => k_is); (case c45 => k_is); (case k45 => k_is)
    refine' Pl.with_def (x := "most_looks") (st := Pl.top 46) ["plans"] KX G (fun _ _ _ _ _ _ _ => rfl) ?a46 ?l46 ?c46 ?k46 (fun fd46 t46 => ?_)
    (case a46 => k_is); (case l46 => k_is); (case c46 => k_is); (case k46 => k_is)
    refine' Pl.with_def (x := "tell_most") (st := Pl.top 47) ["lots"] KX G (fun _ _ _ _ _ _ _ => rfl) ?a47 ?l47 ?c47 ?k47 (fun fd47 t47 => ?_)
    (case a47 => k_is); (case l47 => k_is); (case c47 => k_is); (case k47 => k_is)
    refine' Pl.with_def (x := "tell_worth") (st := Pl.top 48) ["lots", "looks"] KX G (fun _ _ _ _ _ _ _ _ => rfl) ?a48 ?l48 ?c48 ?k48 (fun fd48 t48 => ?_)
    (case a48 => k_is); (case l48 => k_is); (case c48 => k_is); (case k48 => k_is)
    refine' Pl.with_def (x := "tell_over") (st := Pl.top 49) ["lots"] KX G (fun _ _ _ _ _ _ _ => rfl) ?a49 ?l49 ?c49 ?k49 (fun fd49 t49 => ?_)
    (case a49 => k_is); (case l49 => k_is); (case c49 => k_is); (case k49 => k_is)
    refine' Pl.with_def (x := "tell_best_chance") (st := Pl.top 50) ["lots", "looks", "days_of_set"] KX G (fun _ _ _ _ _ _ _ _ _ => rfl) ?a50 ?l50 ?c50 ?k50 (fun fd50 t50 => ?_)
    (case a50 => k_is); (case l50 => k_is); (case c50 => k_is); (case k50 => k_is)
    refine' Pl.with_def (x := "tell_best_looked") (st := Pl.top 51) ["lots", "looks"] KX G (fun _ _ _ _ _ _ _ _ => rfl) ?a51 ?l51 ?c51 ?k51 (fun fd51 t51 => ?_)
    (case a51 => k_is); (case l51 => k_is); (case c51 => k_is); (case k51 => k_is)
    refine' Pl.with_def (x := "outcome") (st := Pl.top 52) ["lots"] KX G (fun _ _ _ _ _ _ _ => rfl) ?a52 ?l52 ?c52 ?k52 (fun fd52 t52 => ?_)
    (case a52 => k_is); (case l52 => k_is); (case c52 => k_is); (case k52 => k_is)
    refine' Pl.with_def (x := "tell_caught") (st := Pl.top 53) ["lots"] KX G (fun _ _ _ _ _ _ _ => rfl) ?a53 ?l53 ?c53 ?k53 (fun fd53 t53 => ?_)
    (case a53 => k_is); (case l53 => k_is); (case c53 => k_is); (case k53 => k_is)
    refine' Pl.with_def (x := "tell_done") (st := Pl.top 54) ["lots"] KX G (fun _ _ _ _ _ _ _ => rfl) ?a54 ?l54 ?c54 ?k54 (fun fd54 t54 => ?_)
    (case a54 => k_is); (case l54 => k_is); (case c54 => k_is); (case k54 => k_is)
    refine' Pl.with_def (x := "tell_unlooked") (st := Pl.top 55) ["lots"] KX G (fun _ _ _ _ _ _ _ => rfl) ?a55 ?l55 ?c55 ?k55 (fun fd55 t55 => ?_)
    (case a55 => k_is); (case l55 => k_is); (case c55 => k_is); (case k55 => k_is)
    refine' Pl.with_def (x := "tell_all") (st := Pl.top 56) ["lots"] KX G (fun _ _ _ _ _ _ _ => rfl) ?a56 ?l56 ?c56 ?k56 (fun fd56 t56 => ?_)
    (case a56 => k_is); (case l56 => k_is); (case c56 => k_is); (case k56 => k_is)
    have t57 : Pl.IsC mg "BEGIN" (0) := by
      refine' Pl.c_mk KX G ?a57
      case a57 => k_is
    refine' Pl.with_tup (x := "TAKES") Pl.takes KX G ?ta58 ?tl58 ?tt58 (fun t58 => ?_)
    (case ta58 => k_is); (case tl58 => k_is); (case tt58 => exact ⟨rfl, _, _, rfl, by decide, (.cons ⟨_, rfl⟩ (.cons ⟨_, rfl⟩ (.cons ⟨_, rfl⟩ (.cons ⟨_, rfl⟩ (.cons ⟨_, rfl⟩ (.cons ⟨_, rfl⟩ (.cons ⟨_, rfl⟩ (.cons ⟨_, rfl⟩ (.cons ⟨_, rfl⟩ (.cons ⟨_, rfl⟩ (.cons ⟨_, rfl⟩ (.cons ⟨_, rfl⟩ (.cons ⟨_, rfl⟩ (.cons ⟨_, rfl⟩ (.cons ⟨_, rfl⟩ (.cons ⟨_, rfl⟩ (.cons ⟨_, rfl⟩ (.cons ⟨_, rfl⟩ (.cons ⟨_, rfl⟩ (.cons ⟨_, rfl⟩ (.cons ⟨_, rfl⟩ .nil)))))))))))))))))))))⟩)
    refine' Pl.with_tup (x := "ASKS_OF_PLANS") Pl.asksL KX G ?ta59 ?tl59 ?tt59 (fun t59 => ?_)
    (case ta59 => k_is); (case tl59 => k_is); (case tt59 => exact ⟨rfl, _, _, rfl, by decide, (.cons ⟨_, rfl⟩ (.cons ⟨_, rfl⟩ (.cons ⟨_, rfl⟩ (.cons ⟨_, rfl⟩ (.cons ⟨_, rfl⟩ (.cons ⟨_, rfl⟩ (.cons ⟨_, rfl⟩ (.cons ⟨_, rfl⟩ (.cons ⟨_, rfl⟩ (.cons ⟨_, rfl⟩ .nil))))))))))⟩)
    refine' Pl.with_refs (x := "ACTS") KX G ?ta60 ?tl60 ?tt60 (fun t60 => ?_)
    (case ta60 => k_is); (case tl60 => k_is); (case tt60 => exact ⟨rfl, ⟨_, _, rfl, by decide, rfl⟩, rfl⟩)
    refine' Pl.with_def (x := "act_on") (st := Pl.top 61) ["lots", "number", "given"] KX G (fun _ _ _ _ _ _ _ _ _ => rfl) ?a61 ?l61 ?c61 ?k61 (fun fd61 t61 => ?_)
    (case a61 => k_is); (case l61 => k_is); (case c61 => k_is); (case k61 => k_is)
    refine' Pl.with_def (x := "answer_to") (st := Pl.top 62) ["lots", "number", "given"] KX G (fun _ _ _ _ _ _ _ _ _ => rfl) ?a62 ?l62 ?c62 ?k62 (fun fd62 t62 => ?_)
    (case a62 => k_is); (case l62 => k_is); (case c62 => k_is); (case k62 => k_is)
    refine' Pl.with_def (x := "answers") (st := Pl.top 63) ["calls"] KX G (fun _ _ _ _ _ _ _ => rfl) ?a63 ?l63 ?c63 ?k63 (fun fd63 t63 => ?_)
    (case a63 => k_is); (case l63 => k_is); (case c63 => k_is); (case k63 => k_is)
    refine' Pl.finish hmg m_len m_range m_max m_sum m_abs t1 t2 t3 t4 t5 t6 t7 t8 t9 t10 t12 t12_0 t12_1 t12_2 t12_3 t12_4 t12_5 t14 t15 t17 t18 t19 t20 t21 t22 t23 t24 t25 t26 t27 t28 t28_0 t29 t30 t31 t32 t33 t34 t35 t36 t37 t38 t39 t40 t41 t42 t43 t44 t45 t46 t47 t48 t49 t50 t51 t52 t53 t54 t55 t56 t57 t58 t59 t60 t61 t62 t63 ?q1 ?q2 ?q3 ?q4 ?q5 ?q6 ?q7
    (case q1 => k_is); (case q2 => k_is); (case q3 => k_is); (case q4 => k_is); (case q5 => k_is); (case q6 => k_is); (case q7 => k_is)
  case S =>
    intro K H xs a hO hwi hask hx
    cases hx with
    | cons h1 h2 =>
      cases h2
      cases h1 with
      | lst hs ha =>
        have e := L2.ints_dw a.1 _ ha
        subst e
        exact ⟨_, a.1, rfl, hs, hask, fun H' p hp => .lst (L2.SqL.of hp) (L2.dw_ints _)⟩

