import PyProof.Rows.All
import Wide.All
import OpenK.AllK
import Wide.FinOn
import PyProof.EqAt
import PyProof.EqKinds
import PyProof.TupleCall
import KE.BitLaws
import Open.SpecLaws
import KE.OsHead
import KE.OsGo
import KE.KItemsList
import PyFlatLaws
import PySem.Challenge.RW_sailpassage_s01_answers
section
-- CHANGE: your row's module here, as the last of these rows
set_option Elab.async false
set_option linter.all false
set_option maxRecDepth 100000
/-! THE HAND LAYER, for ints, bools, texts, own classes, lists, tuples, dicts, comprehensions, walks over dicts, enumerate, zip, reversed, texts, calls, loops. Paste it whole ahead of your own text; what your proof does not reach may be deleted. -/
namespace L2
open PySem PySem.Spec PyProof.Rows

/-- a key: an int or a str -/
noncomputable abbrev Key := Sum Int Str
noncomputable def keyIs : Key → Value → Bool
  | .inl k, v => Value.isInt k v
  | .inr x, v => Value.isStrOf x v
noncomputable def keyH (w : World) : Key → Int
  | .inl k => hashInt k
  | .inr x => hashStr w x
theorem keyIs_shape : ∀ {k : Key} {v : Value}, keyIs k v = true → (∃ i t, k = Sum.inl i ∧ v = Value.int i t) ∨ (∃ x t, k = Sum.inr x ∧ v = Value.str x t)
  | .inl i, v, h => by
    obtain ⟨t, e⟩ := Value.isInt_shape (k := i) (v := v) h
    exact .inl ⟨i, t, rfl, e⟩
  | .inr x, v, h => by
    obtain ⟨t, e⟩ := Value.isStrOf_shape (x := x) (v := v) h
    exact .inr ⟨x, t, rfl, e⟩
theorem keyIs_int (i : Int) (t : Tok) : keyIs (.inl i) (.int i t) = true := by simp [keyIs, Value.isInt]
theorem keyIs_str (x : Str) (t : Tok) : keyIs (.inr x) (.str x t) = true := by simp [keyIs, Value.isStrOf]
theorem key_ll (a b : Int) : decide ((Sum.inl a : Key) = Sum.inl b) = (a == b) := by
  by_cases e : a = b
  · subst e; simp
  · have h : ¬ (Sum.inl a : Key) = Sum.inl b := fun q => e (Sum.inl.inj q)
    rw [decide_eq_false h]
    exact (beq_eq_false_iff_ne.mpr e).symm
theorem key_rr (a b : Str) : decide ((Sum.inr a : Key) = Sum.inr b) = decide (a = b) := by
  by_cases e : a = b
  · subst e; simp
  · have h : ¬ (Sum.inr a : Key) = Sum.inr b := fun q => e (Sum.inr.inj q)
    rw [decide_eq_false h, decide_eq_false e]
theorem key_lr (a : Int) (b : Str) : decide ((Sum.inl a : Key) = Sum.inr b) = false := decide_eq_false (fun q => nomatch q)
theorem key_rl (a : Str) (b : Int) : decide ((Sum.inr a : Key) = Sum.inl b) = false := decide_eq_false (fun q => nomatch q)

noncomputable def mixKind (prog : Program) (w : World) : PySem.KeyKind prog w Key where
  is := keyIs
  hash := keyH w
  inj := fun v a b ha hb => by
    rcases keyIs_shape ha with ⟨i, t, rfl, rfl⟩ | ⟨x, t, rfl, rfl⟩
    · rcases keyIs_shape hb with ⟨j, u, rfl, e⟩ | ⟨y, u, rfl, e⟩
      · injection e with e1 _; rw [e1]
      · exact nomatch e
    · rcases keyIs_shape hb with ⟨j, u, rfl, e⟩ | ⟨y, u, rfl, e⟩
      · exact nomatch e
      · injection e with e1 _; rw [e1]
  byValue := fun k v h => by
    rcases keyIs_shape h with ⟨i, t, rfl, rfl⟩ | ⟨x, t, rfl, rfl⟩ <;> rfl
  pyHash := fun hv h => by
    rcases keyIs_shape hv with ⟨i, t, rfl, rfl⟩ | ⟨x, t, rfl, rfl⟩
    · exact wpAny_pyHash_int h
    · exact wpAny_pyHash_str h
  eqBool := fun hu hv h => by
    rcases keyIs_shape hu with ⟨i, t, rfl, rfl⟩ | ⟨x, t, rfl, rfl⟩
    · rcases keyIs_shape hv with ⟨j, u, rfl, rfl⟩ | ⟨y, u, rfl, rfl⟩
      · rw [key_ll] at h; exact wpAny_eqBool_int h
      · rw [key_lr] at h; exact SeqAt.EqAt.int_str i t y u _ _ _ _ h
    · rcases keyIs_shape hv with ⟨j, u, rfl, rfl⟩ | ⟨y, u, rfl, rfl⟩
      · rw [key_rl] at h; exact SeqAt.EqAt.str_int x t j u _ _ _ _ h
      · rw [key_rr] at h; exact wpAny_eqBool_str h
  «strs» := fun k x t v h => by
    rcases keyIs_shape h with ⟨i, u, rfl, e⟩ | ⟨y, u, rfl, e⟩
    · exact nomatch e
    · injection e with e1 _
      subst e1
      cases v <;> rfl

theorem mixKind_int (prog : Program) (w : World) (i : Int) (t : Tok) : (mixKind prog w).is (.inl i) (.int i t) = true := keyIs_int i t
theorem mixKind_str (prog : Program) (w : World) (x : Str) (t : Tok) : (mixKind prog w).is (.inr x) (.str x t) = true := keyIs_str x t
end L2

namespace L2
open PySem PySem.Spec PyProof.Rows

/-- a value, without the heap -/
inductive V where
  | non | bl (b : Bool) | int (i : Int) | str (x : Str) | byt (b : Array UInt8) | flt (b : UInt64) | ref (a : Addr) | ty (n : String)
  deriving DecidableEq

noncomputable def RelV : V → Value → Prop
  | .non, u => u = Value.none
  | .bl b, u => u = Value.bool b
  | .int i, u => ∃ t, u = Value.int i t
  | .str x, u => ∃ t, u = Value.str x t
  | .byt b, u => ∃ t, u = Value.bytes b t
  | .flt b, u => ∃ t, u = Value.float b t
  | .ref a, u => u = Value.ref a
  | .ty n, u => u = Value.type n

noncomputable abbrev Vals : List V → List Value → Prop := Paired RelV
theorem Vals.length {xs : List V} {us : List Value} (r : Vals xs us) : xs.length = us.length := Paired.length r
theorem Vals.get : ∀ {xs : List V} {us : List Value} {i : Nat} {x : V}, Vals xs us → xs[i]? = some x → ∃ u, us[i]? = some u ∧ RelV x u
  | _, _, _, _, .nil, e => by simp at e
  | _, _, 0, _, .cons r _, e => by simp at e; subst e; exact ⟨_, rfl, r⟩
  | _, _, i + 1, x, .cons _ t, e => by
    obtain ⟨u, h1, h2⟩ := Vals.get (i := i) (x := x) t (by simpa using e)
    exact ⟨u, by simpa using h1, h2⟩
theorem Vals.append : ∀ {xs ys : List V} {us ws : List Value}, Vals xs us → Vals ys ws → Vals (xs ++ ys) (us ++ ws)
  | _, _, _, _, .nil, s => s
  | _, _, _, _, .cons r t, s => .cons r (Vals.append t s)
theorem Vals.take : ∀ {xs : List V} {us : List Value} (n : Nat), Vals xs us → Vals (xs.take n) (us.take n)
  | _, _, 0, _ => .nil
  | _, _, _ + 1, .nil => .nil
  | _, _, n + 1, .cons r t => .cons r (Vals.take n t)
theorem Vals.drop : ∀ {xs : List V} {us : List Value} (n : Nat), Vals xs us → Vals (xs.drop n) (us.drop n)
  | _, _, 0, r => r
  | _, _, _ + 1, .nil => .nil
  | _, _, n + 1, .cons _ t => Vals.drop n t
noncomputable def RelO : Option V → Option Value → Prop
  | some v, some u => RelV v u
  | none, none => True
  | _, _ => False
noncomputable def KV {κ : Type} : List (κ × V) → List (κ × Value) → Prop := Paired fun (p : κ × V) (q : κ × Value) => p.1 = q.1 ∧ RelV p.2 q.2

/-- a key of a dict (00_mix): an int or a text -/
noncomputable def kV : Key → V
  | .inl i => .int i
  | .inr x => .str x

/-- what stands at a tracked address -/
inductive HO where
  /-- a list -/
  | lst (xs : List V)
  /-- a tuple (never changes) -/
  | tup (xs : List V)
  /-- a dict whose keys are ints and texts; one whose keys are tuples of ints and texts (the empty one is both) -/
  | dK (kvs : List (Key × V)) | dT (kvs : List (List Key × V))
  /-- a set of ints: its members, its size -/
  | set (S : Int → Bool) (n : Nat)
  /-- an instance of the class at C, its dict at dx, its attributes -/
  | ins (C dx : Addr) (fs : List (Str × V))
  /-- the dict of the instance at x -/
  | own (x : Addr)
  /-- the dict of an exception -/
  | xd (fs : List (Str × V))
  /-- a bound method, f of x -/
  | met (f x : Addr)
  /-- a range object lo, lo + 1, .. below hi -/
  | rng (lo hi : Int)
  /-- a thing that is known to the object (the script; a dict while a loop walks it): read, never written while it is so -/
  | frz (o : Obj) (u : HO)
  /-- a code object's table -/
  | tbl (ps : Array Value)
  /-- any other thing, by what is true of its one object (a def of one's own: SetO a S n := HO.ext fun h => ..) -/
  | ext (φ : Heap → Prop)

noncomputable abbrev Hp := Addr → Option HO
noncomputable def upd (H : Hp) (a : Addr) (o : HO) : Hp := fun b => if b = a then some o else H b
theorem upd_same {H : Hp} {a : Addr} {o : HO} : upd H a o a = some o := by unfold upd; rw [if_pos rfl]
theorem upd_ne {H : Hp} {a b : Addr} {o : HO} (h : b ≠ a) : upd H a o b = H b := by unfold upd; rw [if_neg h]
theorem upd_upd {H : Hp} {a : Addr} {o u : HO} : upd (upd H a o) a u = upd H a u := by
  funext b; unfold upd; split <;> rfl
/-- two objects of different content stand apart -/
theorem ne_of {H : Hp} {a b : Addr} {o u : HO} (h : H a = some o) (h' : H b = some u) (d : o ≠ u) : a ≠ b := by
  intro e; subst e; rw [h] at h'; exact d (Option.some.inj h')
theorem ne_of_none {H : Hp} {a b : Addr} {o : HO} (h : H a = some o) (h' : H b = none) : a ≠ b := by
  intro e; subst e; rw [h] at h'; cases h'

section
variable (P : Program) (w : World)
noncomputable def ObjOk (H : Hp) (h : Heap) (a : Addr) : HO → Prop
  | .lst xs => xs.length ≤ sizeLine ∧ ∃ (its : List Value) (n : Nat), Vals xs its ∧ h.get? a = some { cls := .type "list", data := .seq its.toArray n }
  | .tup xs => xs.length ≤ sizeLine ∧ ∃ its : List Value, Vals xs its ∧ IsTup h a its.toArray
  | .dK kvs => kvs.length ≤ sizeLine ∧ (a == sysModules) = false ∧ ∃ vs, KV kvs vs ∧ h.DictOf (mixKind P w) a vs
  | .dT kvs => kvs.length ≤ sizeLine ∧ (a == sysModules) = false ∧ ∃ xs : List (List Key × Addr × Value),
      Paired (fun (p : List Key × V) (q : List Key × Addr × Value) => p.1 = q.1 ∧ H q.2.1 = some (.tup (p.1.map kV)) ∧ RelV p.2 q.2.2) kvs xs ∧
      ∃ o es ep, h.get? a = some o ∧ o.ExactDict ∧ o.data = .dict es ep ∧ es.toList = xs.map (entryOfKey (tupleKind (mixKind P w))) ∧ (xs.map (·.1)).Nodup
  | .set S n => h.SetOf (intKind P w) a S n
  | .ins C dx fs => H dx = some (.own a) ∧ fs.length ≤ 1000 ∧ dx ≠ a ∧ h.get? a = some (PySem.W.instObj C dx) ∧
      ∃ mA, h.Ns1 dx mA ∧ (∀ f, RelO (fs.lookup f) (mA f)) ∧ PySem.Within mA (fs.map (·.1))
  | .own _ => ∃ o, h.get? a = some o
  | .xd fs => ∃ mA, h.Ns1 a mA ∧ ∀ f, RelO (fs.lookup f) (mA f)
  | .rng lo hi => ∃ t u v, h.get? a = some { cls := .type "range", data := .fields #[.int lo t, .int hi u, .int 1 v] }
  | .frz o u => h.get? a = some o ∧ ObjOk H h a u
  | .tbl ps => h.get? a = some { cls := .none, data := .fields ps }
  | .met f x => h.get? a = some (PySem.W.methodObj (.ref f) (.ref x))
  | .ext φ => φ h ∧ (∃ o, h.get? a = some o) ∧ ∀ h1 h2 : Heap, φ h1 → (∀ o, h1.get? a = some o → h2.get? a = some o) → φ h2
/-- the abstract heap is held -/
noncomputable def HOk (H : Hp) (h : Heap) : Prop := ∀ a o, H a = some o → ObjOk P w H h a o
end

section
variable {P : Program} {w : World} {H H' : Hp} {h h' : Heap} {a : Addr} {o : HO}
theorem ObjOk.lt (x : ObjOk P w H h a o) : a < h.objs.size := by
  cases o with
  | lst xs => obtain ⟨_, _, _, _, e⟩ := x; exact Heap.lt_size e
  | tup xs => obtain ⟨_, _, _, p⟩ := x; exact p.lt
  | dK kvs => obtain ⟨_, _, _, _, o, _, _, e, _⟩ := x; exact Heap.lt_size e
  | dT kvs => obtain ⟨_, _, _, _, o, _, _, e, _⟩ := x; exact Heap.lt_size e
  | set S n => obtain ⟨o, _, _, _, e, _⟩ := x; exact Heap.lt_size e
  | ins C dx fs => obtain ⟨_, _, _, e, _⟩ := x; exact Heap.lt_size e
  | own y => obtain ⟨_, e⟩ := x; exact Heap.lt_size e
  | xd fs => obtain ⟨_, ⟨_, _, _, e, _⟩, _⟩ := x; exact Heap.lt_size e
  | rng lo hi => obtain ⟨_, _, _, e⟩ := x; exact Heap.lt_size e
  | frz ob u => obtain ⟨e, _⟩ := x; exact Heap.lt_size e
  | tbl ps => exact Heap.lt_size (show h.get? a = some _ from x)
  | met f y => exact Heap.lt_size (show h.get? a = some _ from x)
  | ext φ => obtain ⟨_, ⟨_, e⟩, _⟩ := x; exact Heap.lt_size e
theorem Paired.mapP {α β : Type} {F G : α → β → Prop} : ∀ {l₁ : List α} {l₂ : List β}, Paired F l₁ l₂ → (∀ a b, F a b → G a b) → Paired G l₁ l₂
  | _, _, .nil, _ => .nil
  | _, _, .cons r t, f => .cons (f _ _ r) (Paired.mapP t f)
/-- what an object's description leans on: its own object, its own dict, the tuples -/
theorem ObjOk.stay (x : ObjOk P w H h a o) (k : ∀ b u, (b = a ∨ H b = some (.own a)) → h.get? b = some u → h'.get? b = some u)
    (ho : ∀ b, H b = some (.own a) → H' b = some (.own a)) (ht : ∀ b xs, H b = some (.tup xs) → H' b = some (.tup xs)) : ObjOk P w H' h' a o := by
  induction o with
  | lst xs => obtain ⟨z, its, n, r, e⟩ := x; exact ⟨z, its, n, r, k _ _ (.inl rfl) e⟩
  | tup xs => obtain ⟨z, its, r, ob, e, c⟩ := x; exact ⟨z, its, r, ob, k _ _ (.inl rfl) e, c⟩
  | dK kvs => obtain ⟨z, y, vs, r, ob, es, ep, e, c⟩ := x; exact ⟨z, y, vs, r, ob, es, ep, k _ _ (.inl rfl) e, c⟩
  | dT kvs =>
    obtain ⟨z, y, xs, r, ob, es, ep, e, c⟩ := x
    exact ⟨z, y, xs, Paired.mapP r fun p q z => ⟨z.1, ht _ _ z.2.1, z.2.2⟩, ob, es, ep, k _ _ (.inl rfl) e, c⟩
  | set S n => obtain ⟨ob, es, ep, t, e, c⟩ := x; exact ⟨ob, es, ep, t, k _ _ (.inl rfl) e, c⟩
  | ins C dx fs =>
    obtain ⟨d, z, ne, e, mA, ⟨od, es, ep, e2, c⟩, r⟩ := x
    exact ⟨ho _ d, z, ne, k _ _ (.inl rfl) e, mA, ⟨od, es, ep, k _ _ (.inr d) e2, c⟩, r⟩
  | own y => obtain ⟨ob, e⟩ := x; exact ⟨ob, k _ _ (.inl rfl) e⟩
  | xd fs => obtain ⟨mA, ⟨od, es, ep, e, c⟩, r⟩ := x; exact ⟨mA, ⟨od, es, ep, k _ _ (.inl rfl) e, c⟩, r⟩
  | rng lo hi => obtain ⟨t, u, v, e⟩ := x; exact ⟨t, u, v, k _ _ (.inl rfl) e⟩
  | frz ob u ih => obtain ⟨e, q⟩ := x; exact ⟨k _ _ (.inl rfl) e, ih q⟩
  | tbl ps =>
    have e : h.get? a = some { cls := .none, data := .fields ps } := x
    show h'.get? a = some { cls := .none, data := .fields ps }
    exact k a _ (.inl rfl) e
  | met f y =>
    have e : h.get? a = some (PySem.W.methodObj (.ref f) (.ref y)) := x
    show h'.get? a = some (PySem.W.methodObj (.ref f) (.ref y))
    exact k a _ (.inl rfl) e
  | ext φ => obtain ⟨p, ⟨o, e⟩, st⟩ := x; exact ⟨st _ _ p fun o q => k _ _ (.inl rfl) q, ⟨o, k _ _ (.inl rfl) e⟩, st⟩
theorem HOk.lt (x : HOk P w H h) (e : H a = some o) : a < h.objs.size := (x a o e).lt
theorem HOk.fresh (x : HOk P w H h) (e : h.objs.size ≤ a) : H a = none := by
  cases q : H a with
  | none => rfl
  | some u => exact absurd (Nat.lt_of_lt_of_le (x.lt q) e) (Nat.lt_irrefl _)
/-- every object of the heap is kept -/
theorem HOk.kept (x : HOk P w H h) (k : ∀ b u, h.get? b = some u → h'.get? b = some u) : HOk P w H h' := fun a o e =>
  (x a o e).stay (fun b u _ q => k b u q) (fun _ q => q) fun _ _ q => q
/-- a new object is laid and tracked -/
theorem HOk.laid (x : HOk P w H h) (k : ∀ b u, h.get? b = some u → h'.get? b = some u) (hp : h.objs.size ≤ a) (new : ObjOk P w (upd H a o) h' a o) : HOk P w (upd H a o) h' := fun b u e => by
  have hn := x.fresh hp
  by_cases hb : b = a
  · subst hb; rw [upd_same] at e; cases e; exact new
  · rw [upd_ne hb] at e
    exact (x b u e).stay (fun c v _ q => k c v q) (fun c q => by rw [upd_ne (ne_of_none q hn)]; exact q) fun c xs q => by rw [upd_ne (ne_of_none q hn)]; exact q
end

/-- what may be read as u: it is u, or a known u -/
noncomputable def Rd (H : Hp) (a : Addr) (u : HO) : Prop := H a = some u ∨ ∃ o, H a = some (.frz o u)
theorem Rd.ok {P : Program} {w : World} {H : Hp} {h : Heap} {a : Addr} {u : HO} (r : Rd H a u) (x : HOk P w H h) : ObjOk P w H h a u := by
  rcases r with r | ⟨o, r⟩
  · exact x a u r
  · obtain ⟨_, q⟩ := x a _ r
    exact q
/-- what may be written -/
noncomputable def Mut : Option HO → Prop
  | some (.lst _) => True
  | some (.dK _) => True
  | some (.dT _) => True
  | some (.set _ _) => True
  | some (.ins _ _ _) => True
  | some (.ext _) => True
  | _ => False
section
variable {P : Program} {w : World} {H : Hp} {h h' : Heap} {x e : Addr} {o' : HO}
/-- the object at e is changed: x itself, or the dict of the instance x -/
theorem HOk.write (ok : HOk P w H h) (mu : Mut (H x)) (he : e = x ∨ H e = some (.own x)) (k : ∀ b u, b ≠ e → h.get? b = some u → h'.get? b = some u) (heo : ∃ u, h'.get? e = some u)
    (new : ObjOk P w (upd H x o') h' x o') : HOk P w (upd H x o') h' := fun b u q => by
  have nown : ∀ c y, H c = some (.own y) → c ≠ x := fun c y r z => by subst z; rw [r] at mu; exact mu
  have ntup : ∀ c xs, H c = some (.tup xs) → c ≠ x := fun c xs r z => by subst z; rw [r] at mu; exact mu
  by_cases hb : b = x
  · subst hb; rw [upd_same] at q; cases q; exact new
  · rw [upd_ne hb] at q
    by_cases hbe : b = e
    · have q' : H b = some (.own x) := by
        rcases he with z | z
        · exact absurd (hbe.trans z) hb
        · rw [hbe]; exact z
      rw [q] at q'; cases q'
      obtain ⟨v, hv⟩ := heo
      exact ⟨v, by rw [hbe]; exact hv⟩
    · refine (ok b u q).stay (fun c v hc r => k c v ?_ r) (fun c r => by rw [upd_ne (nown c b r)]; exact r) fun c xs r => by rw [upd_ne (ntup c xs r)]; exact r
      rcases hc with rfl | hc
      · exact hbe
      · rintro rfl
        rcases he with z | z
        · exact nown c b hc z
        · rw [hc] at z; cases z; exact hb rfl
end

/-! ### kept unless tracked; of the frames at fs (the callers') the slots may change (an exception that passes writes there); of the records at ex (iterators) nothing is said -/
structure Un (fs ex : List Addr) (H H' : Hp) (h h' : Heap) : Prop where
  keep : ∀ b o, h.get? b = some o → H b = none → b ∉ fs → b ∉ ex → h'.get? b = some o
  slot : ∀ b o, h.get? b = some o → H b = none → b ∈ fs → b ∉ ex → ∃ sl, h'.get? b = some { o with slots := sl }
  free : ∀ b o, h.get? b = some o → H b = none → b ∉ ex → H' b = none
  there : ∀ b o, h.get? b = some o → b ∉ ex → ∃ o', h'.get? b = some o'
  tups : ∀ b xs, H b = some (.tup xs) → H' b = some (.tup xs)
  frzs : ∀ b o u, H b = some (.frz o u) → H' b = some (.frz o u)
  tbls : ∀ b ps, H b = some (.tbl ps) → ∃ more, H' b = some (.tbl (ps ++ more))
section
variable {fs fs' ex ex' : List Addr} {H H1 H2 : Hp} {h h1 h2 h' : Heap} {a x e : Addr} {o : HO}
theorem Un.any (u : Un fs ex H H1 h h1) {b : Addr} {ob : Obj} (q : h.get? b = some ob) (n : H b = none) (hx : b ∉ ex) : ∃ sl, h1.get? b = some { ob with slots := sl } := by
  by_cases hb : b ∈ fs
  · exact u.slot b ob q n hb hx
  · exact ⟨ob.slots, u.keep b ob q n hb hx⟩
theorem Un.kept (k : ∀ b u, h.get? b = some u → h'.get? b = some u) : Un fs ex H H h h' :=
  ⟨fun b ob q _ _ _ => k b ob q, fun b ob q _ _ _ => ⟨ob.slots, k b ob q⟩, fun _ _ _ n _ => n, fun b ob q _ => ⟨ob, k b ob q⟩, fun _ _ q => q, fun _ _ _ q => q, fun _ ps q => ⟨#[], by rw [q]; simp⟩⟩
theorem Un.refl : Un fs ex H H h h := Un.kept fun _ _ q => q
theorem Un.laid (k : ∀ b u, h.get? b = some u → h'.get? b = some u) (hp : h.objs.size ≤ a) (hn : H a = none) : Un fs ex H (upd H a o) h h' where
  keep := fun b u q _ _ _ => k b u q
  slot := fun b u q _ _ _ => ⟨u.slots, k b u q⟩
  free := fun b u q n _ => by rw [upd_ne (Nat.ne_of_lt (Nat.lt_of_lt_of_le (Heap.lt_size q) hp))]; exact n
  there := fun b u q _ => ⟨u, k b u q⟩
  tups := fun b xs q => by rw [upd_ne (ne_of_none q hn)]; exact q
  frzs := fun b u xs q => by rw [upd_ne (ne_of_none q hn)]; exact q
  tbls := fun b ps q => ⟨#[], by rw [upd_ne (ne_of_none q hn), q]; simp⟩
theorem Un.write (mu : Mut (H x)) (he : e = x ∨ H e = some (.own x)) (k : ∀ b u, b ≠ e → h.get? b = some u → h'.get? b = some u) (heo : ∃ u, h'.get? e = some u) : Un fs ex H (upd H x o) h h' := by
  have hx : ∀ b, H b = none → b ≠ x := fun b n z => by subst z; rw [n] at mu; exact mu
  have hb : ∀ b, H b = none → b ≠ e := fun b n z => by
    subst z
    rcases he with r | r
    · exact hx b n r
    · rw [n] at r; cases r
  have hm : ∀ b u, H b = some u → ¬ Mut (some u) → b ≠ x := fun b u q nm z => by subst z; rw [q] at mu; exact nm mu
  refine ⟨fun b u q n _ _ => k b u (hb b n) q, fun b u q n _ _ => ⟨u.slots, k b u (hb b n) q⟩, fun b u q n _ => by rw [upd_ne (hx b n)]; exact n, fun b u q _ => ?_,
    fun b xs q => by rw [upd_ne (hm b _ q fun z => z)]; exact q, fun b u xs q => by rw [upd_ne (hm b _ q fun z => z)]; exact q, fun b ps q => ⟨#[], by rw [upd_ne (hm b _ q fun z => z), q]; simp⟩⟩
  by_cases hbe : b = e
  · subst hbe; exact heo
  · exact ⟨u, k b u hbe q⟩
end

/-! ### the heap without what is tracked -/
noncomputable def trk (h : Heap) (H : Hp) : List Addr := (List.range h.objs.size).filter fun a => (H a).isSome
noncomputable def hidT (h : Heap) (H : Hp) : Heap := PySem.W.hideAll h (trk h H)
theorem hidT_size (h : Heap) (H : Hp) : (hidT h H).objs.size = h.objs.size := PySem.W.hideAll_size _ _
theorem hidT_get {h : Heap} {H : Hp} {b : Addr} {o : Obj} (e : h.get? b = some o) (n : H b = none) : (hidT h H).get? b = some o :=
  PySem.W.hideAll_get _ e fun hm => by
    have q : (H b).isSome = true := (List.mem_filter.mp hm).2
    rw [n] at q; simp at q
theorem of_hidT {h : Heap} {H : Hp} {b : Addr} {o : Obj} (e : (hidT h H).get? b = some o) : h.get? b = some o ∧ H b = none := by
  have e' : h.get? b = some o := PySem.W.of_hideAll (trk h H) e
  refine ⟨e', ?_⟩
  cases q : H b with
  | none => rfl
  | some x =>
    have hm : b ∈ trk h H := List.mem_filter.mpr ⟨List.mem_range.mpr (Heap.lt_size e'), by simp [q]⟩
    have z : (hidT h H).get? b = none := PySem.W.hideAll_none (trk h H) hm
    rw [z] at e; cases e

/-! ### OpenK's ledger, filled with every new object but one -/
noncomputable def allNews (g h : Heap) (L : Addr) : List (Addr × Obj) := (List.range h.objs.size).filterMap fun a => if a = L ∨ (g.get? a).isSome = true then none else (h.get? a).map fun o => (a, o)
noncomputable def rest (g h : Heap) (L d : Addr) : List (Addr × Obj) := (allNews g h L).filter fun p => decide (p.1 ≠ d)
end L2

namespace L2
open PySem PySem.Spec PyProof.Rows

/-- the module's facts, over the base: the heap at the law's entry without what is tracked there -/
structure Mod (K : PySem.W.Frag) (mg : Str → Option Value) (base : Heap) : Prop where
  kin : K.In base
  glob : base.Ns mainGlobals mg
  blt : ∃ mb, base.Ns builtinsNs mb ∧ ∀ x : Str, x ≠ "__name__" → mb x = bootBuiltins x
  nolimit : base.NoLimit

/-- the context: a def's body (or a comprehension's block) running. base: fixed through the whole law; s₀, H₀: the entry; outer: the frames whose slots others may change (a def's callers); stack: all frames that run;
   ex: iterators that were made ahead of the entry and are walked here (a comprehension's); fn: the names whose cells were made at the entry (a def: all; a comprehension's block: its own); calm: not within an except suite; pn: pins that every state bears; xe: what is wanted of an exception that leaves the code -/
structure Cx where
  prog : Program
  w : World
  K : PySem.W.Frag
  mg : Str → Option Value
  base : Heap
  A : Around
  N : List Str
  s_0 : Shared
  H_0 : Hp
  env : Env
  outer : List Env
  stack : List Env
  ex : List Addr
  fn : Str → Bool
  calm : Bool
  pn : List (Addr × Obj)
  xe : Value → Shared → Prop
/-- the callers' frames -/
noncomputable def frs (l : List Env) : List Addr := l.filterMap (·.frame)
noncomputable abbrev Cx.fs (X : Cx) : List Addr := frs X.outer

noncomputable def Vis (sc : Scope) (x : Str) : Prop := sc.names.lookup x = some .local ∨ sc.names.lookup x = some .cell ∨ sc.names.lookup x = some .free
noncomputable def Loc (sc : Scope) (x : Str) : Prop := sc.names.lookup x = some .local ∨ sc.names.lookup x = some .cell
noncomputable def Look (env : Env) (h : Heap) (m : Str → Option Value) (x : Str) (u : Value) : Prop :=
  (env.kindOf x = some .local ∧ m x = some u) ∨ ((env.kindOf x = some .cell ∨ env.kindOf x = some .free) ∧ ∃ c, env.cells.lookup x = some c ∧ h.IsCell c (some u))

structure Cx.Ok (X : Cx) : Prop where
  mod : Mod X.K X.mg X.base
  kind : X.env.scope.kind = .function
  glob : X.env.globals = mainGlobals
  blt : X.env.builtins = builtinsNs
  above : X.s_0.heap.objs.size ≤ X.env.locals
  inj : ∀ x y c, X.env.cells.lookup x = some c → X.env.cells.lookup y = some c → x = y
  has : ∀ x, (X.env.kindOf x = some .cell ∨ X.env.kindOf x = some .free) → ∃ c, X.env.cells.lookup x = some c
  cab : ∀ x c, X.fn x = true → X.env.cells.lookup x = some c → X.s_0.heap.objs.size ≤ c
  hd : X.calm = true → X.A.handled = none
  frames : X.A.frames = some X.stack
  stk : X.stack = X.outer ∨ (X.stack = X.env :: X.outer ∧ X.env.frame = some X.env.locals)
  exf : ∀ b ∈ X.ex, b ≠ X.env.locals ∧ ∀ x c, X.env.cells.lookup x = some c → c ≠ b
  bs : ∀ b o, X.base.get? b = some o → X.s_0.heap.get? b = some o ∧ X.H_0 b = none
  bsz : X.base.objs.size ≤ X.s_0.heap.objs.size
  noex : ∀ b o, X.base.get? b = some o → b ∉ X.ex
  exfs : ∀ b ∈ X.ex, b ∉ X.fs
  funs : X.s_0.heap.FunFrames X.base X.outer
  frf : ∀ b ∈ X.fs, X.H_0 b = none

structure Inv (X : Cx) (pins : List (Addr × Obj)) (σ : List (Option V)) (H : Hp) (s : Shared) : Prop where
  ok : X.Ok
  os : s.os = X.s_0.os
  bare : AllBare s.gens
  base : Un X.fs X.ex X.H_0 H X.s_0.heap s.heap
  loc : ∃ m, s.heap.Ns X.env.locals m ∧ ∀ (i : Nat) (x : Str) (v : V), X.N[i]? = some x → σ[i]? = some (some v) → Vis X.env.scope x → ∃ u, RelV v u ∧ Look X.env s.heap m x u
  cell : ∀ x c, X.env.cells.lookup x = some c → ∃ v, s.heap.IsCell c v
  free : H X.env.locals = none
  freeC : ∀ x c, X.env.cells.lookup x = some c → H c = none
  pin : ∀ p ∈ X.pn ++ pins, s.heap.get? p.1 = some p.2 ∧ H p.1 = none ∧ p.1 ≠ X.env.locals ∧ p.1 ∉ X.fs ∧ ∀ v, p.2.data ≠ .cell v
  hok : HOk X.prog X.w H s.heap
  len : σ.length = X.N.length

section
variable {X : Cx} {pins : List (Addr × Obj)} {σ : List (Option V)} {H H' : Hp} {s : Shared} {h' : Heap}

theorem Cx.Ok.nofr (ok : X.Ok) {b : Addr} {o : Obj} (e : X.base.get? b = some o) : b ∉ X.fs := fun hb => by
  have := (ok.funs.mem hb).1
  rw [e] at this; cases this
theorem Inv.bs (I : Inv X pins σ H s) : ∀ b o, X.base.get? b = some o → s.heap.get? b = some o ∧ H b = none := fun b o e =>
  ⟨I.base.keep b o (I.ok.bs b o e).1 (I.ok.bs b o e).2 (I.ok.nofr e) (I.ok.noex b o e), I.base.free b o (I.ok.bs b o e).1 (I.ok.bs b o e).2 (I.ok.noex b o e)⟩
theorem Inv.bk (I : Inv X pins σ H s) : ∀ b o, X.base.get? b = some o → s.heap.get? b = some o := fun b o e => (I.bs b o e).1
theorem Inv.mod (I : Inv X pins σ H s) : Mod X.K X.mg X.base := I.ok.mod
theorem Inv.kIn (I : Inv X pins σ H s) : X.K.In s.heap := I.ok.mod.kin.keeps I.bk
theorem Inv.lt (I : Inv X pins σ H s) : X.env.locals < s.heap.objs.size := let ⟨_, hn, _⟩ := I.loc; hn.lt
theorem Inv.sz (I : Inv X pins σ H s) : X.s_0.heap.objs.size ≤ s.heap.objs.size := Nat.le_trans I.ok.above (Nat.le_of_lt I.lt)
theorem Inv.nofs (I : Inv X pins σ H s) {a : Addr} (h : s.heap.objs.size ≤ a) : a ∉ X.fs := fun hb => by
  obtain ⟨_, o, ho, _⟩ := I.ok.funs.mem hb
  exact absurd (Nat.lt_of_lt_of_le (Heap.lt_size ho) (Nat.le_trans I.sz h)) (Nat.lt_irrefl _)
theorem Inv.cne (I : Inv X pins σ H s) : ∀ x c, X.env.cells.lookup x = some c → c ≠ X.env.locals := fun x c e z => by
  obtain ⟨v, o, ho, hd⟩ := I.cell x c e
  obtain ⟨m, ⟨o', es, ep, ho', hd', _⟩, _⟩ := I.loc
  rw [z, ho'] at ho; cases ho; rw [hd'] at hd; cases hd
theorem Inv.funs (I : Inv X pins σ H s) : s.heap.FunFrames X.base X.outer := by
  have all : ∀ (l : List Env), (∀ b ∈ frs l, b ∈ X.fs) → X.s_0.heap.FunFrames X.base l → s.heap.FunFrames X.base l := by
    intro l
    induction l with
    | nil => intro _ _; trivial
    | cons env r ih =>
      intro hs hl
      obtain ⟨hk, ⟨L, o, hf, hn, ho, hd⟩, hr⟩ := hl
      have hL : L ∈ X.fs := hs L (by unfold frs; rw [List.filterMap_cons, hf]; exact List.mem_cons_self)
      obtain ⟨sl, e⟩ := I.base.slot L o ho (I.ok.frf L hL) hL fun z => I.ok.exfs L z hL
      exact ⟨hk, ⟨L, _, hf, hn, e, hd⟩, ih (fun b hb => hs b (by unfold frs; rw [List.filterMap_cons, hf]; exact List.mem_cons_of_mem _ hb)) hr⟩
  exact all X.outer (fun _ hb => hb) I.ok.funs

/-- the frames that run, for a call -/
theorem Inv.stack (I : Inv X pins σ H s) : s.heap.FunFrames X.base X.stack := by
  rcases I.ok.stk with e | ⟨e, hf⟩
  · rw [e]; exact I.funs
  · rw [e]
    obtain ⟨m, hn, _⟩ := I.loc
    refine .cons (by rw [I.ok.kind]; decide) hf hn ?_ I.funs
    exact Heap.get?_none_of_le (Nat.le_trans I.ok.bsz I.ok.above)
theorem Inv.stkSub (I : Inv X pins σ H s) : ∀ b ∈ frs X.stack, b ∈ X.env.locals :: X.fs := fun b hb => by
  rcases I.ok.stk with e | ⟨e, hf⟩
  · rw [e] at hb; exact List.mem_cons_of_mem _ hb
  · rw [e] at hb
    unfold frs at hb
    rw [List.filterMap_cons, hf] at hb
    exact hb
theorem Inv.stkFree (I : Inv X pins σ H s) : ∀ b ∈ frs X.stack, H b = none := fun b hb => by
  rcases List.mem_cons.mp (I.stkSub b hb) with e | hb
  · rw [e]; exact I.free
  · obtain ⟨_, o, ho, _⟩ := I.ok.funs.mem hb
    exact I.base.free b o ho (I.ok.frf b hb) fun z => I.ok.exfs b z hb

/-- THE STEP: the untracked objects but the frame and the records at ch are kept (the callers' frames up to slots), the frame's map is kept, the new abstract heap is held -/
theorem Inv.step {g' : Array GenState} {t' : Nat} {d' : Drawn} {ch : List Addr} (I : Inv X pins σ H s)
    (hch : ∀ b ∈ ch, (b ∈ X.ex ∨ X.s_0.heap.objs.size ≤ b) ∧ b ≠ X.env.locals ∧ (∀ x c, X.env.cells.lookup x = some c → c ≠ b) ∧ ∀ p ∈ X.pn ++ pins, p.1 ≠ b)
    (keep : ∀ b o, b ≠ X.env.locals → b ∉ X.fs → b ∉ ch → s.heap.get? b = some o → H b = none → h'.get? b = some o)
    (slot : ∀ b o, b ≠ X.env.locals → b ∈ X.fs → b ∉ ch → s.heap.get? b = some o → H b = none → ∃ sl, h'.get? b = some { o with slots := sl }) (free : ∀ b o, b ∉ ch → s.heap.get? b = some o → H b = none → H' b = none)
    (there : ∀ b o, b ∉ ch → s.heap.get? b = some o → ∃ o', h'.get? b = some o')
    (tups : ∀ b xs, H b = some (.tup xs) → H' b = some (.tup xs)) (frzs : ∀ b o u, H b = some (.frz o u) → H' b = some (.frz o u)) (tbls : ∀ b ps, H b = some (.tbl ps) → ∃ more, H' b = some (.tbl (ps ++ more)))
    (ns : ∀ m, s.heap.Ns X.env.locals m → h'.Ns X.env.locals m) (hok : HOk X.prog X.w H' h') (hg : AllBare g') :
    Inv X pins σ H' { s with heap := h', gens := g', drawn := d', toks := t' } := by
  have neL : ∀ b o, X.s_0.heap.get? b = some o → b ≠ X.env.locals := fun b o e => Nat.ne_of_lt (Nat.lt_of_lt_of_le (Heap.lt_size e) I.ok.above)
  have neC : ∀ b o, X.s_0.heap.get? b = some o → b ∉ X.ex → b ∉ ch := fun b o e hx hb => by
    rcases (hch b hb).1 with z | z
    · exact hx z
    · exact absurd (Nat.lt_of_lt_of_le (Heap.lt_size e) z) (Nat.lt_irrefl _)
  have cellK : ∀ x c, X.env.cells.lookup x = some c → ∀ v, s.heap.IsCell c v → h'.IsCell c v := fun x c e v ⟨o, ho, hd⟩ => by
    have nch : c ∉ ch := fun z => (hch c z).2.2.1 x c e rfl
    by_cases hc : c ∈ X.fs
    · obtain ⟨sl, q⟩ := slot c o (I.cne x c e) hc nch ho (I.freeC x c e)
      exact ⟨_, q, hd⟩
    · exact ⟨o, keep c o (I.cne x c e) hc nch ho (I.freeC x c e), hd⟩
  refine ⟨I.ok, I.os, hg, ⟨fun b o e n hb hx => ?_, fun b o e n hb hx => ?_, fun b o e n hx => ?_, fun b o e hx => ?_, fun b xs e => tups b xs (I.base.tups b xs e), fun b o xs e => frzs b o xs (I.base.frzs b o xs e), fun b ps e => ?_⟩, ?_, fun x c e => ?_, ?_, fun x c e => ?_, fun p hp => ?_, hok, I.len⟩
  · exact keep b o (neL b o e) hb (neC b o e hx) (I.base.keep b o e n hb hx) (I.base.free b o e n hx)
  · obtain ⟨sl, e1⟩ := I.base.slot b o e n hb hx
    obtain ⟨sl', e2⟩ := slot b _ (neL b o e) hb (neC b o e hx) e1 (I.base.free b o e n hx)
    exact ⟨sl', e2⟩
  · obtain ⟨o', e1⟩ := I.base.there b o e hx
    exact free b o' (neC b o e hx) e1 (I.base.free b o e n hx)
  · obtain ⟨o', e1⟩ := I.base.there b o e hx
    exact there b o' (neC b o e hx) e1
  · obtain ⟨m1, e1⟩ := I.base.tbls b ps e
    obtain ⟨m2, e2⟩ := tbls b _ e1
    exact ⟨m1 ++ m2, by rw [e2, Array.append_assoc]⟩
  · obtain ⟨m, hn, hl⟩ := I.loc
    refine ⟨m, ns m hn, fun i x v e1 e2 e3 => ?_⟩
    obtain ⟨u, r, l⟩ := hl i x v e1 e2 e3
    refine ⟨u, r, ?_⟩
    rcases l with l | ⟨k, c, e, z⟩
    · exact .inl l
    · exact .inr ⟨k, c, e, cellK x c e _ z⟩
  · obtain ⟨v, z⟩ := I.cell x c e
    exact ⟨v, cellK x c e v z⟩
  · obtain ⟨m, ⟨o, _, _, ho, _⟩, _⟩ := I.loc
    exact free _ o (fun z => (hch _ z).2.1 rfl) ho I.free
  · obtain ⟨v, o, ho, hd⟩ := I.cell x c e
    exact free c o (fun z => (hch c z).2.2.1 x c e rfl) ho (I.freeC x c e)
  · obtain ⟨e, n, ne, nf, d⟩ := I.pin p hp
    have nch : p.1 ∉ ch := fun z => (hch p.1 z).2.2.2 p hp rfl
    exact ⟨keep p.1 p.2 ne nf nch e n, free p.1 p.2 nch e n, ne, nf, d⟩
/-- .. where the frame's own object is kept too -/
theorem Inv.un {t' : Nat} (I : Inv X pins σ H s) (u : Un X.fs [] H H' s.heap h') (hok : HOk X.prog X.w H' h') : Inv X pins σ H' { s with heap := h', toks := t' } := by
  obtain ⟨m, ⟨o, es, ep, ho, r⟩, _⟩ := id I.loc
  obtain ⟨sl, hL⟩ := u.any ho I.free (by simp)
  exact I.step (g' := s.gens) (d' := s.drawn) (ch := []) (fun _ z => nomatch z) (fun b o _ hb _ e n => u.keep b o e n hb (by simp)) (fun b o _ hb _ e n => u.slot b o e n hb (by simp)) (fun b o _ e n => u.free b o e n (by simp)) (fun b o _ e => u.there b o e (by simp)) u.tups u.frzs u.tbls (fun m' hm => by
    obtain ⟨o', es', ep', ho', r'⟩ := hm
    rw [ho] at ho'; cases ho'
    exact ⟨_, es', ep', hL, r'⟩) hok I.bare
/-- behind a call (or a comprehension's block): the slots of this frame may have changed too, the records at ch may have turned -/
theorem Inv.call {g' : Array GenState} {t' : Nat} {d' : Drawn} {ch : List Addr} (I : Inv X pins σ H s) (u : Un (frs X.stack) ch H H' s.heap h') (hok : HOk X.prog X.w H' h') (hg : AllBare g')
    (hch : ∀ b ∈ ch, (b ∈ X.ex ∨ X.s_0.heap.objs.size ≤ b) ∧ b ≠ X.env.locals ∧ (∀ x c, X.env.cells.lookup x = some c → c ≠ b) ∧ ∀ p ∈ X.pn ++ pins, p.1 ≠ b) :
    Inv X pins σ H' { s with heap := h', gens := g', drawn := d', toks := t' } := by
  obtain ⟨m, ⟨o, es, ep, ho, r⟩, _⟩ := id I.loc
  obtain ⟨sl, hL⟩ := u.any ho I.free fun z => (hch _ z).2.1 rfl
  exact I.step (ch := ch) hch (fun b o hL hb hc e n => u.keep b o e n (fun z => (List.mem_cons.mp (I.stkSub b z)).elim hL hb) hc) (fun b o _ _ hc e n => u.any e n hc) (fun b o hc e n => u.free b o e n hc) (fun b o hc e => u.there b o e hc) u.tups u.frzs u.tbls (fun m' hm => by
    obtain ⟨o', es', ep', ho', r'⟩ := hm
    rw [ho] at ho'; cases ho'
    exact ⟨_, es', ep', hL, r'⟩) hok hg
/-- an untracked record of ours (an iterator) has turned -/
theorem Inv.turned {t' : Nat} {it : Addr} (I : Inv X pins σ H s) (k : ∀ b o, b ≠ it → s.heap.get? b = some o → h'.get? b = some o) (hn : H it = none) (hL : it ≠ X.env.locals)
    (h1 : it ∈ X.ex ∨ X.s_0.heap.objs.size ≤ it) (h2 : ∀ x c, X.env.cells.lookup x = some c → c ≠ it) (h3 : ∀ p ∈ X.pn ++ pins, p.1 ≠ it) : Inv X pins σ H { s with heap := h', toks := t' } := by
  have nit : ∀ b u, H b = some u → b ≠ it := fun b u e z => by rw [z, hn] at e; cases e
  refine I.step (g' := s.gens) (d' := s.drawn) (ch := [it]) (fun b hb => ?_) (fun b o _ _ hc e _ => k b o (fun z => hc (by simp [z])) e) (fun b o _ _ hc e _ => ⟨o.slots, k b o (fun z => hc (by simp [z])) e⟩) (fun _ _ _ _ n => n)
    (fun b o hc e => ⟨o, k b o (fun z => hc (by simp [z])) e⟩) (fun _ _ e => e) (fun _ _ _ e => e) (fun b ps e => ⟨#[], by rw [e]; simp⟩) (fun m hm => ?_) (fun b u e => ?_) I.bare
  · have e : b = it := by simpa using hb
    subst e
    exact ⟨h1, hL, h2, h3⟩
  · obtain ⟨o, es, ep, ho, r⟩ := hm
    exact ⟨o, es, ep, k _ o (Ne.symm hL) ho, r⟩
  · refine (I.hok b u e).stay (fun c v hc q => k c v ?_ q) (fun _ q => q) fun _ _ q => q
    rcases hc with z | z
    · rw [z]; exact nit b u e
    · exact nit c _ z
theorem Inv.tok (I : Inv X pins σ H s) (t : Nat) : Inv X pins σ H { s with toks := t } := I.un (h' := s.heap) (t' := t) Un.refl I.hok
/-- all objects kept -/
theorem Inv.kept {t' : Nat} (I : Inv X pins σ H s) (k : ∀ b u, s.heap.get? b = some u → h'.get? b = some u) : Inv X pins σ H { s with heap := h', toks := t' } := I.un (Un.kept k) (I.hok.kept k)
/-- a new object laid and tracked -/
theorem Inv.laid {a : Addr} {o : HO} {t' : Nat} (I : Inv X pins σ H s) (k : ∀ b u, s.heap.get? b = some u → h'.get? b = some u) (hp : s.heap.objs.size ≤ a) (new : ObjOk X.prog X.w (upd H a o) h' a o) :
    Inv X pins σ (upd H a o) { s with heap := h', toks := t' } := I.un (Un.laid k hp (I.hok.fresh hp)) (I.hok.laid k hp new)
/-- an object written -/
theorem Inv.write {x e : Addr} {o : HO} {t' : Nat} (I : Inv X pins σ H s) (mu : Mut (H x)) (he : e = x ∨ H e = some (.own x)) (k : ∀ b u, b ≠ e → s.heap.get? b = some u → h'.get? b = some u) (heo : ∃ u, h'.get? e = some u)
    (new : ObjOk X.prog X.w (upd H x o) h' x o) : Inv X pins σ (upd H x o) { s with heap := h', toks := t' } := I.un (Un.write mu he k heo) (I.hok.write mu he k heo new)
/-- forgetting slots, pins -/
theorem Inv.weak {σ' : List (Option V)} (I : Inv X pins σ H s) (hl : σ'.length = σ.length) (w : ∀ (i : Nat) v, σ'[i]? = some (some v) → σ[i]? = some (some v)) : Inv X pins σ' H s :=
  ⟨I.ok, I.os, I.bare, I.base, let ⟨m, hn, hl'⟩ := I.loc; ⟨m, hn, fun i x v e1 e2 e3 => hl' i x v e1 (w i v e2) e3⟩, I.cell, I.free, I.freeC, I.pin, I.hok, hl.trans I.len⟩
theorem Inv.pins_of {pins' : List (Addr × Obj)} (I : Inv X pins σ H s) (h : ∀ p ∈ pins', s.heap.get? p.1 = some p.2 ∧ H p.1 = none ∧ p.1 ≠ X.env.locals ∧ p.1 ∉ X.fs ∧ ∀ v, p.2.data ≠ .cell v) : Inv X pins' σ H s :=
  ⟨I.ok, I.os, I.bare, I.base, I.loc, I.cell, I.free, I.freeC, fun p hp => (List.mem_append.mp hp).elim (fun z => I.pin p (List.mem_append_left _ z)) (h p), I.hok, I.len⟩

theorem nodup_ix {N : List Str} (hN : N.Nodup) {i j : Nat} {x : Str} (a : N[i]? = some x) (b : N[j]? = some x) : i = j := by
  obtain ⟨h1, e1⟩ := List.getElem?_eq_some_iff.mp a
  obtain ⟨h2, e2⟩ := List.getElem?_eq_some_iff.mp b
  exact (List.getElem_inj hN).mp (e1.trans e2.symm)

/-- a name is stored; what changed -/
theorem store_ok2 {M : Model} {A : Around} {E : Value → Shared → Prop} {i : Nat} {x : Str} {v : V} {u : Value} {Q : Unit → Shared → Prop} (I : Inv X pins σ H s) (hN : X.N.Nodup) (hi : X.N[i]? = some x) (hx : Loc X.env.scope x) (r : RelV v u)
    (h : ∀ s', Inv X pins (σ.set i (some v)) H s' → (∃ a, Heap.SameBut a s.heap s'.heap ∧ (a = X.env.locals ∨ X.env.cells.lookup x = some a)) → Q () s') (hf : X.fn x = true ∨ X.env.scope.names.lookup x = some .local := by first | exact .inl rfl | exact .inr rfl | assumption) : wpAny M A (storeName X.env x u) Q E s := by
  obtain ⟨m, hn, hl⟩ := id I.loc
  have hcls : (X.env.scope.kind == .class || (X.env.scope.kind == .module && X.env.locals != X.env.globals)) = false := by rw [I.ok.kind]; rfl
  have hiσ : i < σ.length := by rw [I.len]; exact (List.getElem?_eq_some_iff.mp hi).1
  have cne := I.cne
  have tracked : ∀ {a : Addr} {h' : Heap}, (∃ o, s.heap.get? a = some o ∧ H a = none) → Heap.SameBut a s.heap h' → HOk X.prog X.w H h' := fun {a h'} ha hs b ob e => by
    obtain ⟨_, _, hfree⟩ := ha
    refine (I.hok b ob e).stay (fun c w' hc q => (hs.2 c ?_).trans q) (fun _ q => q) fun _ _ q => q
    rintro rfl
    rcases hc with rfl | hc
    · rw [hfree] at e; cases e
    · rw [hfree] at hc; cases hc
  rcases hx with hk | hk
  · refine wpAny_storeName_local hk hn (fun h' hn' hs => ?_) hcls
    obtain ⟨oL, _, _, hoL, _⟩ := id hn
    refine h _ ⟨I.ok, I.os, I.bare, ⟨fun b o e n hb hx => ?_, fun b o e n hb hx => ?_, I.base.free, fun b o e hx => ?_, I.base.tups, I.base.frzs, I.base.tbls⟩, ⟨_, hn', fun j y v' e1 e2 e3 => ?_⟩, fun y c e => ?_, I.free, I.freeC, fun p hp => ?_, tracked ⟨oL, hoL, I.free⟩ hs, by simpa using I.len⟩ ⟨_, hs, .inl rfl⟩
    · exact (hs.2 b (Nat.ne_of_lt (Nat.lt_of_lt_of_le (Heap.lt_size e) I.ok.above))).trans (I.base.keep b o e n hb hx)
    · obtain ⟨sl, e1⟩ := I.base.slot b o e n hb hx
      exact ⟨sl, (hs.2 b (Nat.ne_of_lt (Nat.lt_of_lt_of_le (Heap.lt_size e) I.ok.above))).trans e1⟩
    · obtain ⟨o', e1⟩ := I.base.there b o e hx
      exact ⟨o', (hs.2 b (Nat.ne_of_lt (Nat.lt_of_lt_of_le (Heap.lt_size e) I.ok.above))).trans e1⟩
    · by_cases hj : j = i
      · subst hj
        rw [hi] at e1; cases e1
        rw [List.getElem?_set_self hiσ] at e2
        cases e2
        exact ⟨u, r, .inl ⟨hk, by simp⟩⟩
      · rw [List.getElem?_set_ne (Ne.symm hj)] at e2
        obtain ⟨u', r', q⟩ := hl j y v' e1 e2 e3
        refine ⟨u', r', ?_⟩
        rcases q with ⟨k, e⟩ | ⟨k, c, e, z⟩
        · refine .inl ⟨k, ?_⟩
          have : y ≠ x := fun e => hj (nodup_ix hN e1 (e ▸ hi))
          simp [this, e]
        · exact .inr ⟨k, c, e, z.sameBut hs (cne y c e)⟩
    · obtain ⟨w', z⟩ := I.cell y c e
      exact ⟨w', z.sameBut hs (cne y c e)⟩
    · obtain ⟨e, n, ne, nf, d⟩ := I.pin p hp
      exact ⟨(hs.2 p.1 ne).trans e, n, ne, nf, d⟩
  · have hfn : X.fn x = true := by
      rcases hf with z | z
      · exact z
      · rw [z] at hk; cases hk
    obtain ⟨c, hc⟩ := I.ok.has x (.inl hk)
    obtain ⟨w', z⟩ := I.cell x c hc
    refine wpAny_storeName_cell I.ok.kind hk hc z (fun h' hc' hs => ?_)
    obtain ⟨oc, hoc, hocd⟩ := id z
    refine h { s with heap := h' } ⟨I.ok, I.os, I.bare, ⟨fun b o e n hb hx => ?_, fun b o e n hb hx => ?_, I.base.free, fun b o e hx => ?_, I.base.tups, I.base.frzs, I.base.tbls⟩, ⟨m, hn.sameBut hs (Ne.symm (cne x c hc)), fun j y v' e1 e2 e3 => ?_⟩, fun y c' e => ?_, I.free, I.freeC, fun p hp => ?_, tracked ⟨oc, hoc, I.freeC x c hc⟩ hs, by simpa using I.len⟩ ⟨c, hs, .inr hc⟩
    · exact (hs.2 b (Nat.ne_of_lt (Nat.lt_of_lt_of_le (Heap.lt_size e) (I.ok.cab x c hfn hc)))).trans (I.base.keep b o e n hb hx)
    · obtain ⟨sl, e1⟩ := I.base.slot b o e n hb hx
      exact ⟨sl, (hs.2 b (Nat.ne_of_lt (Nat.lt_of_lt_of_le (Heap.lt_size e) (I.ok.cab x c hfn hc)))).trans e1⟩
    · obtain ⟨o', e1⟩ := I.base.there b o e hx
      exact ⟨o', (hs.2 b (Nat.ne_of_lt (Nat.lt_of_lt_of_le (Heap.lt_size e) (I.ok.cab x c hfn hc)))).trans e1⟩
    · by_cases hj : j = i
      · subst hj
        rw [hi] at e1; cases e1
        rw [List.getElem?_set_self hiσ] at e2
        cases e2
        exact ⟨u, r, .inr ⟨.inl hk, c, hc, hc'⟩⟩
      · rw [List.getElem?_set_ne (Ne.symm hj)] at e2
        obtain ⟨u', r', q⟩ := hl j y v' e1 e2 e3
        refine ⟨u', r', ?_⟩
        rcases q with q | ⟨k, c', e, z'⟩
        · exact .inl q
        · refine .inr ⟨k, c', e, z'.sameBut hs ?_⟩
          rintro rfl
          exact hj (nodup_ix hN e1 (I.ok.inj _ _ _ e hc ▸ hi))
    · by_cases hcc : c' = c
      · subst hcc; exact ⟨_, hc'⟩
      · obtain ⟨w2, z2⟩ := I.cell y c' e
        exact ⟨w2, z2.sameBut hs hcc⟩
    · obtain ⟨e, n, ne, nf, d⟩ := I.pin p hp
      refine ⟨(hs.2 p.1 ?_).trans e, n, ne, nf, d⟩
      intro q
      rw [q, hoc] at e
      have q' : oc = p.2 := Option.some.inj e
      exact d w' (by rw [← q']; exact hocd)
theorem store_ok {M : Model} {A : Around} {E : Value → Shared → Prop} {i : Nat} {x : Str} {v : V} {u : Value} {Q : Unit → Shared → Prop} (I : Inv X pins σ H s) (hN : X.N.Nodup) (hi : X.N[i]? = some x) (hx : Loc X.env.scope x) (r : RelV v u)
    (h : ∀ s', Inv X pins (σ.set i (some v)) H s' → Q () s') (hf : X.fn x = true ∨ X.env.scope.names.lookup x = some .local := by first | exact .inl rfl | exact .inr rfl | assumption) : wpAny M A (storeName X.env x u) Q E s :=
  store_ok2 I hN hi hx r (fun s' I' _ => h s' I') hf
/-- behind a call or a block, the state as it is -/
theorem Inv.call' {s' : Shared} {ch : List Addr} (I : Inv X pins σ H s) (ho : s'.os = s.os) (u : Un (frs X.stack) ch H H' s.heap s'.heap) (hok : HOk X.prog X.w H' s'.heap) (hg : AllBare s'.gens)
    (hch : ∀ b ∈ ch, (b ∈ X.ex ∨ X.s_0.heap.objs.size ≤ b) ∧ b ≠ X.env.locals ∧ (∀ x c, X.env.cells.lookup x = some c → c ≠ b) ∧ ∀ p ∈ X.pn ++ pins, p.1 ≠ b) : Inv X pins σ H' s' := by
  obtain ⟨h', g', d', t', o'⟩ := s'
  have e : o' = s.os := ho
  subst e
  exact I.call (g' := g') (t' := t') (d' := d') u hok hg hch
end

/-! ### the judgements -/
/-- an exception: its class, its own dict's address (where it has one), the abstract heap behind it -/
noncomputable abbrev XK := Value → Option Addr → Hp → Prop
noncomputable abbrev St := List (Option V)
noncomputable abbrev VK := V → Hp → Prop
/-- an expression's reading; a test's; an argument list's -/
noncomputable abbrev TE := St → Hp → VK → Prop
noncomputable abbrev TT := St → Hp → (Bool → Hp → Prop) → Prop
noncomputable abbrev TA := St → Hp → (List V → Hp → Prop) → Prop
/-- what is wanted behind a statement -/
structure Ends where
  nx : St → Hp → Prop
  rt : VK
  bk : St → Hp → Prop := fun _ _ => False
  ct : St → Hp → Prop := fun _ _ => False
noncomputable abbrev TS := Ends → St → Hp → Prop

noncomputable def EP (X : Cx) (pins : List (Addr × Obj)) (σ : St) (Q : VK) (u : Value) (s' : Shared) : Prop := ∃ v H', Inv X pins σ H' s' ∧ RelV v u ∧ Q v H'
noncomputable def TP (X : Cx) (pins : List (Addr × Obj)) (σ : St) (Q : Bool → Hp → Prop) (b : Bool) (s' : Shared) : Prop := ∃ H', Inv X pins σ H' s' ∧ Q b H'
noncomputable def AP (X : Cx) (pins : List (Addr × Obj)) (σ : St) (Q : List V → Hp → Prop) (us : List Value) (s' : Shared) : Prop := ∃ vs H', Inv X pins σ H' s' ∧ Vals vs us ∧ Q vs H'
noncomputable def SP (X : Cx) (pins : List (Addr × Obj)) (D : Ends) (f : Flow) (s' : Shared) : Prop :=
  match f with
  | .next => ∃ σ' H', Inv X pins σ' H' s' ∧ D.nx σ' H'
  | .brk => ∃ σ' H', Inv X pins σ' H' s' ∧ D.bk σ' H'
  | .cont => ∃ σ' H', Inv X pins σ' H' s' ∧ D.ct σ' H'
  | .ret u => ∃ v σ' H', Inv X pins σ' H' s' ∧ RelV v u ∧ D.rt v H'

noncomputable def PE (X : Cx) (e : Expr) (t : TE) : Prop :=
  ∀ (pins : List (Addr × Obj)) (s : Shared) (σ : St) (H : Hp) (Q : VK), Inv X pins σ H s → t σ H Q → wpAny (model X.prog X.w) X.A (eval e X.env) (EP X pins σ Q) X.xe s
noncomputable def PT (X : Cx) (e : Expr) (t : TT) : Prop :=
  ∀ (pins : List (Addr × Obj)) (s : Shared) (σ : St) (H : Hp) (Q : Bool → Hp → Prop), Inv X pins σ H s → t σ H Q → wpAny (model X.prog X.w) X.A (isTrue e X.env (eval e X.env)) (TP X pins σ Q) X.xe s
/-- a test whatever its 'whole' is (and, or) -/
noncomputable def PW (X : Cx) (e : Expr) (t : TT) : Prop :=
  ∀ (whole : Sem Value) (pins : List (Addr × Obj)) (s : Shared) (σ : St) (H : Hp) (Q : Bool → Hp → Prop), Inv X pins σ H s → t σ H Q → wpAny (model X.prog X.w) X.A (isTrue e X.env whole) (TP X pins σ Q) X.xe s
theorem PW.pt {X : Cx} {e : Expr} {t : TT} (h : PW X e t) : PT X e t := h _
/-- an argument list (no star), from the left -/
noncomputable def PA (X : Cx) (es : List Expr) (t : TA) : Prop :=
  ∀ (pos : Pos) (pins : List (Addr × Obj)) (s : Shared) (σ : St) (H : Hp) (Q : List V → Hp → Prop), Inv X pins σ H s → t σ H Q → wpAny (model X.prog X.w) X.A (spliced (backTo pos (starEach es X.env))) (AP X pins σ Q) X.xe s
noncomputable def PS (X : Cx) (st : Stmt) (t : TS) : Prop :=
  ∀ (pins : List (Addr × Obj)) (s : Shared) (σ : St) (H : Hp) (D : Ends), Inv X pins σ H s → t D σ H → wpAny (model X.prog X.w) X.A (exec st X.env) (SP X pins D) X.xe s
noncomputable def PSs (X : Cx) (st : List Stmt) (t : TS) : Prop :=
  ∀ (pins : List (Addr × Obj)) (s : Shared) (σ : St) (H : Hp) (D : Ends), Inv X pins σ H s → t D σ H → wpAny (model X.prog X.w) X.A (execs st X.env) (SP X pins D) X.xe s
/-- weaken the end -/
theorem thn {α : Type} {t : Sem α} {Q Q' : α → Shared → Prop} {M : Model} {A : Around} {E : Value → Shared → Prop} {s : Shared} (h : wpAny M A t Q E s) (hQ : ∀ a s, Q a s → Q' a s) : wpAny M A t Q' E s := wpAny_mono h hQ fun _ _ x => x
end L2

namespace L2
open PySem PySem.Spec PyProof.Rows
section
variable {X : Cx}

/-! ### names and constants -/
noncomputable def tVar (i : Nat) : TE := fun σ H Q => ∃ v, σ[i]? = some (some v) ∧ Q v H
@[reducible] noncomputable def tC (v : V) : TE := fun _ H Q => Q v H
theorem pe_var {i : Nat} {x : Str} {pos : Pos} (hN : X.N[i]? = some x) (hv : Vis X.env.scope x) (hd : (x == ("__debug__" : Str)) = false := by decide) (hcd : (x == ("__classdict__" : Str)) = false := by decide) : PE X (.Name x pos) (tVar i) := by
  intro pins s σ H Q I h
  obtain ⟨v, e, h⟩ := h
  obtain ⟨m, hn, hl⟩ := I.loc
  obtain ⟨u, r, l⟩ := hl i x v hN e hv
  have fin : EP X pins σ Q u s := ⟨v, H, I, r, h⟩
  rcases l with ⟨hk, hm⟩ | ⟨hk, c, hc, hcell⟩
  · exact wpAny_Name (wpAny_loadName_local I.ok.kind hk hn hm fin) hd
  · rcases hk with hk | hk
    · exact wpAny_Name (wpAny_loadName_cell I.ok.kind hk hc hcell fin) hd
    · exact wpAny_Name (wpAny_loadName_free I.ok.kind hk hc hcell fin hcd) hd
theorem pe_int {i j pos} : PE X (.Constant (.int i) j pos) (tC (.int i)) := fun _ _ _ H _ I h => wpAny_Constant_int ⟨.int i, H, I.tok _, ⟨_, rfl⟩, h⟩
theorem pe_bl {b j pos} : PE X (.Constant (.bool b) j pos) (tC (.bl b)) := fun _ _ _ H _ I h => Constant_bool ⟨.bl b, H, I, rfl, h⟩
theorem pe_non {j pos} : PE X (.Constant .none j pos) (tC .non) := fun _ _ _ H _ I h => Constant_none ⟨.non, H, I, rfl, h⟩
/-- a global name of the def -/
noncomputable def Gl (X : Cx) (x : Str) : Prop := X.env.kindOf x = some .globalImplicit
theorem ld_glob {E : Value → Shared → Prop} {pins : List (Addr × Obj)} {s : Shared} {σ : St} {H : Hp} {x : Str} {u : Value} {pos : Pos} {Q : Value → Shared → Prop} (I : Inv X pins σ H s) (hg : Gl X x) (hm : X.mg x = some u) (h : Q u s)
    (hd : (x == ("__debug__" : Str)) = false := by decide) : wpAny (model X.prog X.w) X.A (eval (.Name x pos) X.env) Q E s :=
  Calls.Name_function_global I.ok.kind hg (Calls.loadGlobal_global (by rw [I.ok.glob]; exact I.mod.glob.keeps I.bk) hm h) hd
theorem ld_blt {E : Value → Shared → Prop} {pins : List (Addr × Obj)} {s : Shared} {σ : St} {H : Hp} {x : Str} {u : Value} {pos : Pos} {Q : Value → Shared → Prop} (I : Inv X pins σ H s) (hg : Gl X x) (hm : X.mg x = none) (hv : bootBuiltins x = some u) (h : Q u s)
    (hn : x ≠ "__name__" := by decide) (hd : (x == ("__debug__" : Str)) = false := by decide) : wpAny (model X.prog X.w) X.A (eval (.Name x pos) X.env) Q E s := by
  obtain ⟨mb, h1, h2⟩ := I.mod.blt
  exact Calls.Name_function_global I.ok.kind hg (Calls.loadGlobal_builtin (by rw [I.ok.glob]; exact I.mod.glob.keeps I.bk) hm (by rw [I.ok.blt]; exact h1.keeps I.bk) ((h2 x hn).trans hv) h) hd
/-- a module's constant, a class, a function, as a value -/
theorem pe_glob {x : Str} {v : V} {u : Value} {pos : Pos} (hg : Gl X x) (hm : X.mg x = some u) (r : RelV v u) (hd : (x == ("__debug__" : Str)) = false := by decide) : PE X (.Name x pos) (tC v) :=
  fun _ _ _ H _ I h => ld_glob I hg hm ⟨v, H, I, r, h⟩ hd
/-! ### arithmetic -/
variable {a b : Expr} {ta tb : TE} {pos : Pos}
/-! ### comparisons -/
noncomputable def PC (X : Cx) (op : CmpOp) (a b : Expr) (t : TE) : Prop :=
  ∀ (pins : List (Addr × Obj)) (s : Shared) (σ : St) (H : Hp) (Q : VK), Inv X pins σ H s → t σ H Q →
    wpAny (model X.prog X.w) X.A (eval a X.env) (fun v s₁ => wpAny (model X.prog X.w) X.A (eval b X.env) (fun u s₂ => wpAny (model X.prog X.w) X.A (compareOp op v u) (EP X pins σ Q) X.xe s₂) X.xe s₁) X.xe s
theorem nobehind (b : Expr) {op : CmpOp} (h : op ≠ .In) (h2 : op ≠ .NotIn) : behindInMarks op b = false := by
  have e1 : (op == CmpOp.In) = false := by cases op <;> first | rfl | exact absurd rfl h
  have e2 : (op == CmpOp.NotIn) = false := by cases op <;> first | rfl | exact absurd rfl h2
  cases b <;> simp [behindInMarks, e1, e2]
/-- is None -/
noncomputable def tIsN (ta : TE) : TE := fun σ H Q => ta σ H fun x H1 => Q (.bl (decide (x = .non))) H1
noncomputable def tNotN (ta : TE) : TE := fun σ H Q => ta σ H fun x H1 => Q (.bl (!decide (x = .non))) H1
theorem RelV.none_iff {x : V} {v : Value} (r : RelV x v) : (v == Value.none) = decide (x = .non) := by
  cases x with
  | non => cases r; rfl
  | bl _ => cases r; rfl
  | int _ => obtain ⟨t, rfl⟩ := r; rfl
  | str _ => obtain ⟨t, rfl⟩ := r; rfl
  | byt _ => obtain ⟨t, rfl⟩ := r; rfl
  | flt _ => obtain ⟨t, rfl⟩ := r; rfl
  | ref _ => cases r; rfl
  | ty _ => cases r; rfl
theorem pc_isN {j pos'} (ha : PE X a ta) : PC X .Is a (.Constant .none j pos') (tIsN ta) := by
  intro pins s σ H Q I h
  refine thn (ha pins s σ H _ I h) fun v s1 ⟨x, H1, I1, r1, q1⟩ => ?_
  exact Constant_none (is_none_gen ⟨.bl _, H1, I1, by rw [r1.none_iff]; rfl, q1⟩)
theorem pc_notN {j pos'} (ha : PE X a ta) : PC X .IsNot a (.Constant .none j pos') (tNotN ta) := by
  intro pins s σ H Q I h
  refine thn (ha pins s σ H _ I h) fun v s1 ⟨x, H1, I1, r1, q1⟩ => ?_
  exact Constant_none (isnot_none_gen ⟨.bl _, H1, I1, by rw [r1.none_iff]; rfl, q1⟩)
/-- a comparison as a value, as a test -/
@[reducible] noncomputable def tB (t : TE) : TT := fun σ H Q => t σ H fun x H1 => ∃ c, x = .bl c ∧ Q c H1
theorem pe_cmp {op : CmpOp} {t : TE} (h : PC X op a b t) (h1 : behindInMarks op b = false := by first | exact nobehind _ (by decide) (by decide) | rfl) : PE X (.Compare a [op] [b] pos) t := fun pins s σ H Q I hw => wpAny_Compare1 (h pins s σ H Q I hw) h1
theorem pt_cmp {op : CmpOp} {t : TE} (h : PC X op a b t) (h1 : behindInMarks op b = false := by first | exact nobehind _ (by decide) (by decide) | rfl) : PT X (.Compare a [op] [b] pos) (tB t) := by
  intro pins s σ H Q I hw
  refine wpAny_isTrue_Compare1 (thn (h pins s σ H _ I hw) fun v s1 h1 => thn h1 fun u s2 h2 => thn h2 fun c s3 ⟨x, H1, I1, r1, q1⟩ => ?_) h1
  obtain ⟨d, rfl, q⟩ := q1
  cases r1
  exact wpAny_truthy_bool ⟨H1, I1, q⟩
/-- an expression whose value is a bool, as a test -/
theorem pt_val {e : Expr} {t : TE} (h : PE X e t) (he : ∀ whole, isTrue e X.env whole = (do let v ← whole; standAt e.pos; holding [v] (truthy v)) := by intro _; rfl) : PT X e (tB t) := by
  intro pins s σ H Q I hw
  refine isTrue_plain (thn (h pins s σ H _ I hw) fun v s1 ⟨x, H1, I1, r1, q1⟩ => ?_) (he _)
  obtain ⟨d, rfl, q⟩ := q1
  cases r1
  exact wpAny_truthy_bool ⟨H1, I1, q⟩

/-! ### and, or, not -/
variable {tA tB' : TT} {rest : List Expr}
@[reducible] noncomputable def tAnd (t u : TT) : TT := fun σ H Q => t σ H fun c H1 => if c = true then u σ H1 Q else Q false H1
@[reducible] noncomputable def tOr (t u : TT) : TT := fun σ H Q => t σ H fun c H1 => if c = true then Q true H1 else u σ H1 Q
@[reducible] noncomputable def tNot (t : TT) : TT := fun σ H Q => t σ H fun c H1 => Q (!c) H1
theorem pw_or1 (ha : PT X a tA) : PW X (.BoolOp .Or [a] pos) tA := by
  intro wh pins s σ H Q I h
  refine isTrue_or (thn (ha pins s σ H Q I h) fun c s1 e => ?_)
  cases c with
  | false => exact isTrue_or_nil e
  | true => exact e
theorem pw_or (ha : PT X a tA) (hb : PW X (.BoolOp .Or (b :: rest) pos) tB') : PW X (.BoolOp .Or (a :: b :: rest) pos) (tOr tA tB') := by
  intro wh pins s σ H Q I h
  refine isTrue_or (thn (ha pins s σ H _ I h) fun c s1 ⟨H1, I1, q1⟩ => ?_)
  cases c with
  | true => exact ⟨H1, I1, q1⟩
  | false => exact hb wh pins s1 σ H1 Q I1 q1
theorem pt_not (ha : PT X a tA) : PT X (.UnaryOp .Not a pos) (tNot tA) := by
  intro pins s σ H Q I h
  exact isTrue_not (ha pins s σ H (fun c H1 => Q (!c) H1) I h)
/-- .. as values (bools) -/
@[reducible] noncomputable def tAndV (ta tb : TE) : TE := fun σ H Q => ta σ H fun x H1 => ∃ c, x = .bl c ∧ if c = true then tb σ H1 Q else Q (.bl false) H1
@[reducible] noncomputable def tOrV (ta tb : TE) : TE := fun σ H Q => ta σ H fun x H1 => ∃ c, x = .bl c ∧ if c = true then Q (.bl true) H1 else tb σ H1 Q
theorem pe_one {op} {t : TE} (h : PE X a t) : PE X (.BoolOp op [a] pos) t := fun pins s σ H Q I hw => BoolOp_one (h pins s σ H Q I hw)
theorem pe_and (ha : PE X a ta) (hb : PE X (.BoolOp .And (b :: rest) pos) tb) : PE X (.BoolOp .And (a :: b :: rest) pos) (tAndV ta tb) := by
  intro pins s σ H Q I h
  refine BoolOp_and (thn (ha pins s σ H _ I h) fun v s1 ⟨x, H1, I1, r1, q1⟩ => ?_)
  obtain ⟨c, rfl, q1⟩ := q1
  cases r1
  refine wpAny_truthy_bool ?_
  cases c with
  | true => exact hb pins s1 σ H1 Q I1 q1
  | false => exact ⟨.bl false, H1, I1, rfl, q1⟩
end
end L2

namespace L2
open PySem PySem.Spec PyProof.Rows

/-! ### a list, a tuple that is read: tracked, frozen, or an object of the module -/
noncomputable def SqL (K : PySem.W.Frag) (H : Hp) (a : Addr) (xs : List V) : Prop :=
  Rd H a (.lst xs) ∨
    ∃ (o : Obj) (its : Array Value) (n : Nat), K.lookup a = some o ∧ o.cls = .type "list" ∧ o.dict = none ∧ o.data = .seq its n ∧ its.size ≤ sizeLine ∧ Vals xs its.toList
noncomputable def SqT (K : PySem.W.Frag) (H : Hp) (a : Addr) (xs : List V) : Prop :=
  Rd H a (.tup xs) ∨
    ∃ (o : Obj) (its : Array Value) (n : Nat), K.lookup a = some o ∧ o.cls = .type "tuple" ∧ o.data = .seq its n ∧ its.size ≤ sizeLine ∧ Vals xs its.toList
noncomputable def absV : Value → Option V
  | .none => some .non
  | .bool b => some (.bl b)
  | .int i _ => some (.int i)
  | .str x _ => some (.str x)
  | .bytes b _ => some (.byt b)
  | .float b _ => some (.flt b)
  | .ref a => some (.ref a)
  | .type n => some (.ty n)
  | _ => none
theorem RelV.abs {x : V} {u : Value} (r : RelV x u) : absV u = some x := by
  cases x with
  | non => cases r; rfl
  | bl _ => cases r; rfl
  | int _ => obtain ⟨t, rfl⟩ := r; rfl
  | str _ => obtain ⟨t, rfl⟩ := r; rfl
  | byt _ => obtain ⟨t, rfl⟩ := r; rfl
  | flt _ => obtain ⟨t, rfl⟩ := r; rfl
  | ref _ => cases r; rfl
  | ty _ => cases r; rfl
theorem RelV.inj {x y : V} {u : Value} (r : RelV x u) (q : RelV y u) : x = y := Option.some.inj (r.abs.symm.trans q.abs)
theorem Vals.inj : ∀ {xs ys : List V} {us : List Value}, Vals xs us → Vals ys us → xs = ys
  | _, _, _, .nil, .nil => rfl
  | _, _, _, .cons r t, .cons r' t' => by rw [r.inj r', Vals.inj t t']
section
variable {X : Cx} {pins : List (Addr × Obj)} {σ : St} {H : Hp} {s : Shared} {a : Addr} {xs ys : List V}
theorem SqL.of {K : PySem.W.Frag} (h : H a = some (.lst xs)) : SqL K H a xs := .inl (.inl h)
theorem SqT.of {K : PySem.W.Frag} (h : H a = some (.tup xs)) : SqT K H a xs := .inl (.inl h)
theorem Inv.list (I : Inv X pins σ H s) (h : SqL X.K H a xs) : ∃ its : List Value, Vals xs its ∧ PlainL s.heap a its.toArray ∧ xs.length ≤ sizeLine := by
  rcases h with h | ⟨o, its, n, hk, hc, hd, hs, hz, r⟩
  · obtain ⟨z, its, n, r, e⟩ := h.ok I.hok
    exact ⟨its, r, ⟨_, n, e, rfl, rfl, rfl⟩, z⟩
  · refine ⟨its.toList, r, ⟨o, n, I.kIn a o hk, hc, hd, by simpa using hs⟩, ?_⟩
    have e := r.length
    simp only [Array.length_toList] at e
    omega
theorem Inv.tuple (I : Inv X pins σ H s) (h : SqT X.K H a xs) : ∃ its : List Value, Vals xs its ∧ IsTup s.heap a its.toArray ∧ xs.length ≤ sizeLine := by
  rcases h with h | ⟨o, its, n, hk, hc, hs, hz, r⟩
  · obtain ⟨z, its, r, p⟩ := h.ok I.hok
    exact ⟨its, r, p, z⟩
  · refine ⟨its.toList, r, ⟨o, I.kIn a o hk, hc, n, by simpa using hs⟩, ?_⟩
    have e := r.length
    simp only [Array.length_toList] at e
    omega
theorem Inv.list_inj (I : Inv X pins σ H s) (h : SqL X.K H a xs) (h' : SqL X.K H a ys) : xs = ys := by
  obtain ⟨its, r, ⟨o, n, e, _, _, d⟩, _⟩ := I.list h
  obtain ⟨its', r', ⟨o', n', e', _, _, d'⟩, _⟩ := I.list h'
  rw [e] at e'; cases e'
  rw [d] at d'
  injection d' with d1 _
  have : its = its' := by simpa using congrArg Array.toList d1
  subst this
  exact r.inj r'
end

/-! ### another wish about exceptions -/
noncomputable abbrev Cx.wish (X : Cx) (E : Value → Shared → Prop) : Cx := { X with xe := E }
/-- no exception leaves -/
noncomputable abbrev Cx.nox (X : Cx) : Cx := X.wish fun _ _ => False
theorem Cx.Ok.wish {X : Cx} (ok : X.Ok) (E : Value → Shared → Prop) : (X.wish E).Ok :=
  ⟨ok.mod, ok.kind, ok.glob, ok.blt, ok.above, ok.inj, ok.has, ok.cab, ok.hd, ok.frames, ok.stk, ok.exf, ok.bs, ok.bsz, ok.noex, ok.exfs, ok.funs, ok.frf⟩
theorem Cx.Ok.unwish {X : Cx} {E : Value → Shared → Prop} (ok : (X.wish E).Ok) : X.Ok :=
  ⟨ok.mod, ok.kind, ok.glob, ok.blt, ok.above, ok.inj, ok.has, ok.cab, ok.hd, ok.frames, ok.stk, ok.exf, ok.bs, ok.bsz, ok.noex, ok.exfs, ok.funs, ok.frf⟩
section
variable {X : Cx} {pins : List (Addr × Obj)} {σ : St} {H : Hp} {s : Shared} {E : Value → Shared → Prop}
theorem Inv.wish (I : Inv X pins σ H s) (E : Value → Shared → Prop) : Inv (X.wish E) pins σ H s := ⟨I.ok.wish E, I.os, I.bare, I.base, I.loc, I.cell, I.free, I.freeC, I.pin, I.hok, I.len⟩
theorem Inv.unwish (I : Inv (X.wish E) pins σ H s) : Inv X pins σ H s := ⟨I.ok.unwish, I.os, I.bare, I.base, I.loc, I.cell, I.free, I.freeC, I.pin, I.hok, I.len⟩
theorem SP.unwish {D : Ends} {f : Flow} {s' : Shared} (h : SP (X.wish E) pins D f s') : SP X pins D f s' := by
  cases f with
  | next => obtain ⟨σ', H', I, q⟩ := h; exact ⟨σ', H', I.unwish, q⟩
  | brk => obtain ⟨σ', H', I, q⟩ := h; exact ⟨σ', H', I.unwish, q⟩
  | cont => obtain ⟨σ', H', I, q⟩ := h; exact ⟨σ', H', I.unwish, q⟩
  | ret u => obtain ⟨v, σ', H', I, r, q⟩ := h; exact ⟨v, σ', H', I.unwish, r, q⟩
theorem PSs.nox {st : List Stmt} {t : TS} (h : PSs X.nox st t) : PSs X st t := fun pins s σ H D I hw =>
  wpAny_mono (h pins s σ H D (I.wish _) hw) (fun _ _ q => q.unwish) fun _ _ z => False.elim z
end

/-! ### blocks and small statements -/
section
variable {X : Cx} {st : Stmt} {rest : List Stmt} {t u : TS} {e : Expr} {te : TE} {pos : Pos}
@[reducible] noncomputable def tNext : TS := fun D σ H => D.nx σ H
@[reducible] noncomputable def tSeq (t u : TS) : TS := fun D σ H => t { D with nx := u D } σ H
theorem pss_nil : PSs X [] tNext := fun _ _ σ H _ I h => wpAny_execs_nil ⟨σ, H, I, h⟩
theorem pss_cons (h1 : PS X st t) (h2 : PSs X rest u) : PSs X (st :: rest) (tSeq t u) := by
  intro pins s σ H D I h
  refine wpAny_execs_cons (thn (h1 pins s σ H { D with nx := u D } I h) fun f s1 q => ?_)
  cases f with
  | next =>
    obtain ⟨σ', H', I', q⟩ := q
    exact h2 pins s1 σ' H' D I' q
  | ret v => exact q
  | brk => exact q
  | cont => exact q
theorem pss_one (h1 : PS X st t) : PSs X [st] t := by
  intro pins s σ H D I h
  refine wpAny_execs_cons (thn (h1 pins s σ H D I h) fun f s1 q => ?_)
  cases f with
  | next => exact wpAny_execs_nil q
  | ret v => exact q
  | brk => exact q
  | cont => exact q
/-- in a def's body nothing is shown -/
theorem Inv.quiet {pins : List (Addr × Obj)} {σ : St} {H : Hp} {s : Shared} (I : Inv X pins σ H s) : interactive X.env = false := by simp [interactive, I.ok.kind]
/-- an expression whose value is dropped -/
@[reducible] noncomputable def tDrop (te : TE) : TS := fun D σ H => te σ H fun _ H1 => D.nx σ H1
theorem ps_expr (he : PE X e te) (hs : swapsWith e none pos.line X.env = pure false := by rfl) : PS X (.Expr e pos) (tDrop te) := by
  intro pins s σ H D I h
  exact wpAny_Expr_any (thn (he pins s σ H _ I h) fun v s1 ⟨x, H1, I1, r1, q1⟩ => ⟨σ, H1, I1, q1⟩) I.quiet hs
@[reducible] noncomputable def tRet (te : TE) : TS := fun D σ H => te σ H D.rt
theorem ps_ret (he : PE X e te) : PS X (.Return (some e) pos) (tRet te) := by
  intro pins s σ H D I h
  exact wpAny_Return_some (thn (he pins s σ H _ I h) fun v s1 ⟨x, H1, I1, r1, q1⟩ => ⟨x, σ, H1, I1, r1, q1⟩)
@[reducible] noncomputable def tIfS (c : TT) (t u : TS) : TS := fun D σ H => c σ H fun b H1 => if b = true then t D σ H1 else u D σ H1
theorem ps_if {c : Expr} {a b : List Stmt} {tc : TT} (hc : PT X c tc) (ha : PSs X a t) (hb : PSs X b u) : PS X (.If c a b pos) (tIfS tc t u) := by
  intro pins s σ H D I h
  refine wpAny_If (thn (hc pins s σ H _ I h) fun d s1 ⟨H1, I1, q1⟩ => ?_)
  cases d with
  | true => exact ha pins s1 σ H1 D I1 q1
  | false => exact hb pins s1 σ H1 D I1 q1
end

/-! ### targets -/
noncomputable abbrev TG := V → St → Hp → (St → Hp → Prop) → Prop
noncomputable abbrev TGs := List V → St → Hp → (St → Hp → Prop) → Prop
noncomputable def PG (X : Cx) (target : Expr) (t : TG) : Prop :=
  ∀ (pins : List (Addr × Obj)) (s : Shared) (σ : St) (H : Hp) (v : V) (u : Value) (Q : St → Hp → Prop), Inv X pins σ H s → RelV v u → t v σ H Q →
    wpAny (model X.prog X.w) X.A (assign target X.env u) (fun _ s' => ∃ σ' H', Inv X pins σ' H' s' ∧ Q σ' H') X.xe s
/-- several targets, one after another -/
noncomputable def PGs (X : Cx) (ts : List Expr) (t : TGs) : Prop :=
  ∀ (pins : List (Addr × Obj)) (s : Shared) (σ : St) (H : Hp) (vs : List V) (us : List Value) (Q : St → Hp → Prop), Inv X pins σ H s → Vals vs us → t vs σ H Q →
    wpAny (model X.prog X.w) X.A (assignInOrder ((assignEach ts X.env).map (·.2)) us) (fun _ s' => ∃ σ' H', Inv X pins σ' H' s' ∧ Q σ' H') X.xe s
/-- a op= b, by values -/
noncomputable abbrev TIp := V → V → Hp → VK → Prop
noncomputable def PIp (X : Cx) (op : Operator) (t : TIp) : Prop :=
  ∀ (pins : List (Addr × Obj)) (s : Shared) (σ : St) (H : Hp) (x y : V) (v u : Value) (Q : VK), Inv X pins σ H s → RelV x v → RelV y u → t x y H Q →
    wpAny (model X.prog X.w) X.A (inplaceOp op v u) (EP X pins σ Q) X.xe s
section
variable {X : Cx} {pos : Pos}
@[reducible] noncomputable def gName (i : Nat) : TG := fun v σ H Q => Q (σ.set i (some v)) H
theorem pg_name {i : Nat} {x : Str} (hN : X.N.Nodup) (hi : X.N[i]? = some x) (hx : Loc X.env.scope x) (hf : X.fn x = true ∨ X.env.scope.names.lookup x = some .local := by first | exact .inl rfl | exact .inr rfl | assumption) : PG X (.Name x pos) (gName i) := by
  intro pins s σ H v u Q I r h
  exact wpAny_assign_Name (store_ok I hN hi hx r (fun s' I' => ⟨_, H, I', h⟩) hf)
noncomputable def gNil : TGs := fun vs σ H Q => vs = [] ∧ Q σ H
noncomputable def gCons (t : TG) (u : TGs) : TGs := fun vs σ H Q => ∃ v r, vs = v :: r ∧ t v σ H fun σ' H' => u r σ' H' Q
theorem pgs_nil : PGs X [] gNil := by
  intro pins s σ H vs us Q I r h
  obtain ⟨e, h⟩ := h
  subst e
  cases r
  exact assignInOrder_nil ⟨σ, H, I, h⟩
theorem pgs_cons {e : Expr} {es : List Expr} {t : TG} {u : TGs} (h1 : PG X e t) (h2 : PGs X es u)
    (hs : (assignEach (e :: es) X.env).map (·.2) = assign e X.env :: (assignEach es X.env).map (·.2) := by rfl) : PGs X (e :: es) (gCons t u) := by
  intro pins s σ H vs us Q I r h
  obtain ⟨v, vr, e1, h⟩ := h
  subst e1
  cases r with
  | cons r rr =>
    rw [hs]
    refine assignInOrder_cons (thn (h1 pins s σ H _ _ _ I r h) fun _ s1 ⟨σ1, H1, I1, q1⟩ => ?_)
    exact h2 pins s1 σ1 H1 _ _ Q I1 rr q1
/-- (a, b, ..) = a tuple of that length -/
noncomputable def gTup (K : PySem.W.Frag) (n : Nat) (t : TGs) : TG := fun v σ H Q => ∃ a xs, v = .ref a ∧ SqT K H a xs ∧ xs.length = n ∧ t xs σ H Q
theorem pg_tup {es : List Expr} {k : Nat} {t : TGs} {n : Nat} (hc : X.calm = true) (h : PGs X es t)
    (hn : (assignEach es X.env).length = n := by rfl) (hst : (assignEach es X.env).findIdx? (·.1) = none := by rfl) : PG X (.Tuple es k pos) (gTup X.K n t) := by
  intro pins s σ H v u Q I r hw
  obtain ⟨a, xs, e1, hq, hl, hw⟩ := hw
  subst e1
  cases r
  obtain ⟨its, rv, ht, hz⟩ := I.tuple hq
  refine assign_Tuple_tuple (I.ok.hd hc) ht (by simp [hn, ← hl, rv.length]) hst fun h' hx => ?_
  have I1 : Inv X pins σ H { s with heap := h' } := I.kept (t' := s.toks) fun b o e => hx b o (Nat.ne_of_lt (Heap.lt_size e)) e
  exact h pins _ σ H xs _ Q I1 (by simpa using rv) hw
/-- target = value -/
@[reducible] noncomputable def tAsg (te : TE) (g : TG) : TS := fun D σ H => te σ H fun x H1 => g x σ H1 D.nx
/-- name = value -/
theorem ps_set {i : Nat} {x : Str} {e : Expr} {te : TE} {pos' : Pos} (hN : X.N.Nodup) (hi : X.N[i]? = some x) (hx : Loc X.env.scope x) (he : PE X e te) (hs : swapsWith e (some (.Name x pos')) pos.line X.env = pure false := by rfl) (hf : X.fn x = true ∨ X.env.scope.names.lookup x = some .local := by first | exact .inl rfl | exact .inr rfl | assumption) :
    PS X (.Assign [.Name x pos'] e pos) (tAsg te (gName i)) := by
  intro pins s σ H D I h
  refine wpAny_Assign_Name (thn (he pins s σ H _ I h) fun v s1 ⟨y, H1, I1, r1, q1⟩ => ?_) hs
  exact store_ok I1 hN hi hx r1 (fun s2 I2 => ⟨_, H1, I2, q1⟩) hf
/-- name op= e -/
noncomputable def tAug (i : Nat) (te : TE) (ti : TIp) : TS := fun D σ H => ∃ x, σ[i]? = some (some x) ∧ te σ H fun y H1 => ti x y H1 fun z H2 => D.nx (σ.set i (some z)) H2
theorem ps_aug {i : Nat} {x : Str} {e : Expr} {te : TE} {op : Operator} {ti : TIp} {pos' : Pos} (hN : X.N.Nodup) (hi : X.N[i]? = some x) (hx : Loc X.env.scope x) (he : PE X e te) (ho : PIp X op ti) (hf : X.fn x = true ∨ X.env.scope.names.lookup x = some .local := by first | exact .inl rfl | exact .inr rfl | assumption) :
    PS X (.AugAssign (.Name x pos') op e pos) (tAug i te ti) := by
  intro pins s σ H D I h
  obtain ⟨v, e1, h⟩ := h
  obtain ⟨m, hn, hl⟩ := I.loc
  have vis : Vis X.env.scope x := by rcases hx with k | k; exact .inl k; exact .inr (.inl k)
  obtain ⟨u, r, l⟩ := hl i x v hi e1 vis
  refine wpAny_AugAssign_Name ?_
  have go : wpAny (model X.prog X.w) X.A (eval e X.env) (fun w s₂ => wpAny (model X.prog X.w) X.A (inplaceOp op u w) (fun r s₃ => wpAny (model X.prog X.w) X.A (storeName X.env x r) (fun _ => SP X pins D .next) X.xe s₃) X.xe s₂) X.xe s := by
    refine thn (he pins s σ H _ I h) fun w s1 ⟨y, H1, I1, r1, q1⟩ => ?_
    refine thn (ho pins s1 σ H1 v y u w _ I1 r r1 q1) fun z s2 ⟨zv, H2, I2, r2, q2⟩ => ?_
    exact store_ok I2 hN hi hx r2 (fun s3 I3 => ⟨_, H2, I3, q2⟩) hf
  rcases l with ⟨hk, hm⟩ | ⟨hk, c, hc, hcell⟩
  · exact wpAny_loadName_local I.ok.kind hk hn hm go
  · rcases hk with hk | hk
    · exact wpAny_loadName_cell I.ok.kind hk hc hcell go
    · rcases hx with k | k
      · have : X.env.scope.names.lookup x = some .free := hk
        rw [k] at this; cases this
      · have : X.env.scope.names.lookup x = some .free := hk
        rw [k] at this; cases this
/-- ints -/
noncomputable def ipI (f : Int → Int → Int) : TIp := fun x y H Q => ∃ i j, x = .int i ∧ y = .int j ∧ Q (.int (f i j)) H
theorem ip_add : PIp X .Add (ipI fun i j => i + j) := by
  intro pins s σ H x y v u Q I r1 r2 h
  obtain ⟨i, j, e1, e2, q⟩ := h
  subst e1; subst e2
  obtain ⟨t, rfl⟩ := r1
  obtain ⟨t', rfl⟩ := r2
  exact iadd_int ⟨.int _, H, I.tok _, ⟨_, rfl⟩, q⟩
end

/-! ### while -/
section
variable {X : Cx} {pos : Pos}
/-- the invariant W with its measure -/
noncomputable def tWhile (c : TT) (tb : TS) : TS := fun D σ H => ∃ W : Nat → St → Hp → Prop, (∃ m, W m σ H) ∧ ∀ m σ H, W m σ H →
  c σ H fun b H1 => if b = true then ∃ N : St → Hp → Prop, (∀ σ' H', N σ' H' → ∃ m', m' < m ∧ W m' σ' H') ∧ tb { D with nx := N, ct := N, bk := D.nx } σ H1 else D.nx σ H1
theorem ps_while {c : Expr} {body : List Stmt} {tc : TT} {tb : TS} (hp : PassesOwn (model X.prog X.w) X.A X.env X.xe) (hc : PT X c tc) (hb : PSs X body tb) : PS X (.While c body [] pos) (tWhile tc tb) := by
  intro pins s σ H D I h
  obtain ⟨W, ⟨m0, w0⟩, turn⟩ := h
  refine wpAny_While (codeAny_whileLoop (fun n s' => ∃ σ' H', Inv X pins σ' H' s' ∧ W n σ' H') ?_ m0 ⟨σ, H, I, w0⟩)
  rintro n s1 ⟨σ1, H1, I1, w1⟩
  refine wpAny_passesOwn hp (thn (hc pins s1 σ1 H1 _ I1 (turn n σ1 H1 w1)) fun b s2 ⟨H2, I2, q2⟩ => ?_)
  cases b with
  | true =>
    obtain ⟨N, hN, q2⟩ := q2
    rw [if_pos rfl]
    refine wpAny_passesOwn hp (thn (hb pins s2 σ1 H2 _ I2 q2) fun f s3 q3 => ?_)
    cases f with
    | next =>
      obtain ⟨σ3, H3, I3, n3⟩ := q3
      obtain ⟨m', hm, w3⟩ := hN σ3 H3 n3
      exact ⟨m', hm, σ3, H3, I3, w3⟩
    | cont =>
      obtain ⟨σ3, H3, I3, n3⟩ := q3
      obtain ⟨m', hm, w3⟩ := hN σ3 H3 n3
      exact ⟨m', hm, σ3, H3, I3, w3⟩
    | brk => exact q3
    | ret v => exact q3
  | false =>
    rw [if_neg Bool.false_ne_true]
    exact wpAny_execs_nil ⟨σ1, H2, I2, q2⟩
end

/-! ### what a loop or a comprehension walks -/
/-- at turn i: it yields x (the heap may grow), or it stops -/
structure It where
  go : Nat → Hp → Prop
  yld : Nat → Hp → V → Hp → Prop
  stop : Nat → Hp → Prop
/-- the iterator's own objects may turn: they are not the frame's, not pinned, younger than the entry (or a comprehension's own) -/
noncomputable def FpOk (X : Cx) (pins : List (Addr × Obj)) (H : Hp) (b : Addr) : Prop :=
  H b = none ∧ b ≠ X.env.locals ∧ b ∉ X.fs ∧ (b ∈ X.ex ∨ X.s_0.heap.objs.size ≤ b) ∧ (∀ x c, X.env.cells.lookup x = some c → c ≠ b) ∧ ∀ p ∈ X.pn ++ pins, p.1 ≠ b
theorem Inv.fpOk {X : Cx} {pins : List (Addr × Obj)} {σ : St} {H H' : Hp} {s : Shared} {b : Addr} (I : Inv X pins σ H s) (hb : s.heap.objs.size ≤ b) (hn : H' b = none) : FpOk X pins H' b := by
  refine ⟨hn, Nat.ne_of_gt (Nat.lt_of_lt_of_le I.lt hb), I.nofs hb, .inr (Nat.le_trans I.sz hb), fun x c e z => ?_, fun p hp z => ?_⟩
  · obtain ⟨v, q⟩ := I.cell x c e
    exact absurd (Nat.lt_of_lt_of_le q.lt (by rw [z]; exact hb)) (Nat.lt_irrefl _)
  · exact absurd (Nat.lt_of_lt_of_le (Heap.lt_size (I.pin p hp).1) (by rw [z]; exact hb)) (Nat.lt_irrefl _)
structure Turn (P : Program) (w : World) (K : PySem.W.Frag) (tg : Expr) (J : It) (fp : List Addr) (it : Addr) (tn : Nat → Heap → Prop) : Prop where
  mem : it ∈ fp
  obj : ∀ i h, tn i h → ∀ b ∈ fp, ∃ o, h.get? b = some o ∧ ∀ v, o.data ≠ .cell v
  keep : ∀ i h h', tn i h → (∀ b ∈ fp, ∀ o, h.get? b = some o → h'.get? b = some o) → tn i h'
  item : ∀ (X : Cx), X.prog = P → X.w = w → X.K = K → X.calm = true → ∀ (i : Nat) (pins : List (Addr × Obj)) (s : Shared) (σ : St) (H : Hp) (E : Value → Shared → Prop), Inv X pins σ H s → (∀ b ∈ fp, FpOk X pins H b) → tn i s.heap → J.go i H →
    wpAny (model P w) X.A (pyNext (.ref it)) (fun r s1 => ∃ u, r = some u ∧
      wpAny (model P w) X.A (letOwnedTupleGo tg (.ref it) u) (fun _ s2 => ∃ x H', Inv X pins σ H' s2 ∧ RelV x u ∧ J.yld i H x H' ∧ tn (i + 1) s2.heap ∧ ∀ b ∈ fp, H' b = none) E s1) E s
  done : ∀ (X : Cx), X.prog = P → X.w = w → X.K = K → X.calm = true → ∀ (i : Nat) (pins : List (Addr × Obj)) (s : Shared) (σ : St) (H : Hp) (E : Value → Shared → Prop), Inv X pins σ H s → (∀ b ∈ fp, FpOk X pins H b) → tn i s.heap → J.stop i H →
    wpAny (model P w) X.A (pyNext (.ref it)) (fun r s1 => r = none ∧ Inv X pins σ H s1) E s
  self : ∀ (A : Around) (i : Nat) (s : Shared) (Q : Value → Shared → Prop) (E : Value → Shared → Prop), tn i s.heap → Q (.ref it) s → wpAny (model P w) A (pyIter (.ref it)) Q E s
noncomputable abbrev TI := St → Hp → (It → Hp → Prop) → Prop
/-- an iterator has come -/
noncomputable def PIE (X : Cx) (pins : List (Addr × Obj)) (σ : St) (tg : Expr) (R : It → Hp → Prop) (itv : Value) (s2 : Shared) : Prop :=
  ∃ (it : Addr) (fp : List Addr) (tn : Nat → Heap → Prop) (J : It) (H' : Hp), itv = .ref it ∧ Inv X pins σ H' s2 ∧ Turn X.prog X.w X.K tg J fp it tn ∧ tn 0 s2.heap ∧ (∀ b ∈ fp, FpOk X pins H' b) ∧ R J H'
noncomputable def PI (X : Cx) (tg iter : Expr) (wi : TI) : Prop :=
  ∀ (pins : List (Addr × Obj)) (s : Shared) (σ : St) (H : Hp) (R : It → Hp → Prop), Inv X pins σ H s → wi σ H R →
    wpAny (model X.prog X.w) X.A (eval iter X.env) (fun v s1 => wpAny (model X.prog X.w) X.A (pyIter v) (PIE X pins σ tg R) X.xe s1) X.xe s

/-- the step ahead of the store is nothing for an iterator that keeps no tuple -/
theorem go_of {M : Model} {A : Around} {E : Value → Shared → Prop} {s : Shared} {tg : Expr} {it : Addr} {u : Value} {o : Obj} {n : String} {vs : Array Value} {Q : Unit → Shared → Prop} (ho : s.heap.get? it = some o) (hc : o.cls = .type n) (hd : o.data = .fields vs)
    (hn : ["enumerate", "zip", "dict_itemiterator", "dict_reverseitemiterator", "odict_iterator", "itertools.zip_longest", "itertools.pairwise"].contains n = false) (hQ : Q () s) : wpAny M A (letOwnedTupleGo tg (.ref it) u) Q E s := by
  unfold letOwnedTupleGo
  cases tg <;> first
    | exact wpAny_pure hQ
    | (cases u <;> first
        | exact wpAny_pure hQ
        | (refine wpAny_bind (wpAny_load ho ?_)
           rw [hc, hd]
           show wpAny M A (if (["enumerate", "zip", "dict_itemiterator", "dict_reverseitemiterator", "odict_iterator", "itertools.zip_longest", "itertools.pairwise"].contains n && vs[0]? == some (rawInt _)) = true then _ else _) Q E s
           rw [if_neg (by intro h; rw [hn, Bool.false_and] at h; cases h)]
           exact wpAny_pure hQ))

/-- the list at a, as it stands at each turn (a loop may append to it) -/
noncomputable def Itl (K : PySem.W.Frag) (a : Addr) : It :=
  ⟨fun i H => ∃ xs x, SqL K H a xs ∧ xs[i]? = some x, fun i H x H' => H' = H ∧ ∀ xs, SqL K H a xs → xs[i]? = some x, fun i H => ∃ xs, SqL K H a xs ∧ xs.length ≤ i⟩
/-- lo, lo + 1, .. (n of them) -/
noncomputable def Itr (lo : Int) (n : Nat) : It := ⟨fun i _ => i < n, fun i H x H' => H' = H ∧ x = .int (lo + i), fun i _ => n ≤ i⟩
theorem turn_list {P : Program} {w : World} {K : PySem.W.Frag} {tg : Expr} (a it : Addr) : Turn P w K tg (Itl K a) [it] it (fun i h => h.IsListIter it a i) where
  mem := by simp
  obj := fun i h st b hb => by
    have e : b = it := by simpa using hb
    subst e
    obtain ⟨o, e, c, d⟩ := st
    exact ⟨o, e, fun v z => by rw [d] at z; cases z⟩
  keep := fun i h h' st k => st.at fun o e => k it (by simp) o e
  item := by
    intro X hP hw hK hc i pins s σ H E I hf st hg
    subst hP hw hK
    obtain ⟨xs, x, hq, hx⟩ := hg
    obtain ⟨its, rv, p, hz⟩ := I.list hq
    obtain ⟨u, hu, ru⟩ := rv.get hx
    obtain ⟨f0, f1, f2, f3, f4, f5⟩ := hf it (by simp)
    refine wpAny_pyNext_list_item st p.isList (x := u) (by simpa using hu) fun h' st' sb => ?_
    have I1 : Inv X pins σ H { s with heap := h' } := I.turned (t' := s.toks) (fun b o hb e => (sb.2 b hb).trans e) f0 f1 f3 f4 f5
    obtain ⟨o, e, c, d⟩ := id st'
    exact ⟨u, rfl, go_of (s := { s with heap := h' }) e c d (by decide) ⟨x, H, I1, ru, ⟨rfl, fun ys hy => by rw [I.list_inj hy hq]; exact hx⟩, st', fun b hb => (hf b hb).1⟩⟩
  done := by
    intro X hP hw hK hc i pins s σ H E I hf st hg
    subst hP hw hK
    obtain ⟨xs, hq, hx⟩ := hg
    obtain ⟨its, rv, p, hz⟩ := I.list hq
    obtain ⟨f0, f1, f2, f3, f4, f5⟩ := hf it (by simp)
    have hl := rv.length
    exact wpAny_pyNext_list_end (I.ok.hd hc) st p.isList (by simp; omega) fun h' eb => ⟨rfl, I.turned (t' := s.toks) (fun b o hb e => eb b o hb e) f0 f1 f3 f4 f5⟩
  self := fun _ _ _ _ _ st h => wpAny_pyIter_listiter st h
theorem turn_range {P : Program} {w : World} {K : PySem.W.Frag} {tg : Expr} (it : Addr) (lo : Int) (n : Nat) : Turn P w K tg (Itr lo n) [it] it (fun i h => IsRangeIter h it (lo + (i : Nat) * 1) ((n : Int) - (i : Nat)) 1) where
  mem := by simp
  obj := fun i h st b hb => by
    have e : b = it := by simpa using hb
    subst e
    exact ⟨_, st, fun v z => by
      have z' : Data.fields _ = Data.cell v := z
      cases z'⟩
  keep := fun i h h' st k => k it (by simp) _ st
  item := by
    intro X hP hw hK hc i pins s σ H E I hf st hg
    subst hP hw hK
    obtain ⟨f0, f1, f2, f3, f4, f5⟩ := hf it (by simp)
    have W := Walks.range (prog := X.prog) (w := X.w) (I.ok.hd hc) it lo 1 n
    refine W.item i s _ _ hg st fun v h' tk hv st' kk => ?_
    obtain ⟨t, rfl⟩ := hv
    have I1 : Inv X pins σ H { s with heap := h', toks := tk } := I.turned (fun b o hb e => kk b o (by simpa using hb) e) f0 f1 f3 f4 f5
    refine ⟨_, rfl, go_of (s := { s with heap := h', toks := tk }) (n := "range_iterator") st' rfl rfl (by decide) ⟨.int (lo + i), H, I1, ⟨t, ?_⟩, ⟨rfl, rfl⟩, st', fun b hb => (hf b hb).1⟩⟩
    rw [Int.mul_one]
  done := by
    intro X hP hw hK hc i pins s σ H E I hf st hg
    subst hP hw hK
    obtain ⟨f0, f1, f2, f3, f4, f5⟩ := hf it (by simp)
    exact wpAny_pyNext_range_end (I.ok.hd hc) st (by have : n ≤ i := hg; omega) fun h' eb => ⟨rfl, I.turned (t' := s.toks) (fun b o hb e => eb b o hb e) f0 f1 f3 f4 f5⟩
  self := fun _ _ _ _ _ st h => wpAny_pyIter_rangeiter st h
end L2

namespace L2
open PySem PySem.Spec PyProof.Rows
section
variable {X : Cx} {tg : Expr}
noncomputable def iList (K : PySem.W.Frag) (tl : TE) : TI := fun σ H R => tl σ H fun x H1 => ∃ a, x = .ref a ∧ (∃ xs, SqL K H1 a xs) ∧ R (Itl K a) H1
theorem pi_list {l : Expr} {tl : TE} (hl : PE X l tl) : PI X tg l (iList X.K tl) := by
  intro pins s σ H R I h
  refine thn (hl pins s σ H _ I h) fun v s1 ⟨x, H1, I1, r1, q1⟩ => ?_
  obtain ⟨a, e, ⟨xs, hq⟩, q⟩ := q1
  subst e
  cases r1
  obtain ⟨its, rv, p, hz⟩ := I1.list hq
  refine wpAny_pyIter_list p.isList ?_
  refine ⟨s1.heap.objs.size, [s1.heap.objs.size], _, _, H1, rfl, I1.kept (t' := s1.toks) fun b o e => Heap.get?_push_of_some _ e, turn_list a _, ⟨_, Heap.get?_push_size _ rfl, rfl, rfl⟩, fun b hb => ?_, q⟩
  have e : b = s1.heap.objs.size := by simpa using hb
  subst e
  exact I1.fpOk (Nat.le_refl _) (I1.hok.fresh (Nat.le_refl _))
/-- a range object just made, walked -/
theorem range_it {pins : List (Addr × Obj)} {σ : St} {H : Hp} {s : Shared} {R : It → Hp → Prop} {E : Value → Shared → Prop} {lo hi : Int} {t u v : Tok} {tk : Nat} (I : Inv X pins σ H s) (h1 : -(2 ^ 62) ≤ lo) (h2 : lo < 2 ^ 62) (h3 : -(2 ^ 62) ≤ hi) (h4 : hi < 2 ^ 62)
    (q : R (Itr lo (hi - lo).toNat) H) : wpAny (model X.prog X.w) X.A (pyIter (.ref s.heap.objs.size)) (PIE X pins σ tg R) E { s with heap := s.heap.push { cls := .type "range", data := .fields #[.int lo t, .int hi u, .int 1 v] }, toks := tk } := by
  refine wpAny_pyIter_range (IsRange.new ..) (small_one h1 h2 h3 h4) ?_
  have I1 : Inv X pins σ H { s with heap := s.heap.push { cls := .type "range", data := .fields #[.int lo t, .int hi u, .int 1 v] }, toks := tk } := I.kept fun b o e => Heap.get?_push_of_some _ e
  refine ⟨(s.heap.push { cls := .type "range", data := .fields #[.int lo t, .int hi u, .int 1 v] }).objs.size, [(s.heap.push { cls := .type "range", data := .fields #[.int lo t, .int hi u, .int 1 v] }).objs.size], _, _, H, rfl,
    I1.kept (t' := tk) fun b o e => Heap.get?_push_of_some _ e, turn_range _ lo (hi - lo).toNat, ?_, fun b hb => ?_, q⟩
  · have e1 : lo + ((0 : Nat) : Int) * 1 = lo := by simp
    have e2 : (((hi - lo).toNat : Nat) : Int) - ((0 : Nat) : Int) = Builtin.Range.rangeSize lo hi 1 := by rw [rangeSize_one]; split <;> omega
    show IsRangeIter _ _ (lo + ((0 : Nat) : Int) * 1) ((((hi - lo).toNat : Nat) : Int) - ((0 : Nat) : Int)) 1
    rw [e1, e2]
    exact Heap.get?_push_size _ rfl
  · have e : b = (s.heap.push { cls := .type "range", data := .fields #[.int lo t, .int hi u, .int 1 v] }).objs.size := by simpa using hb
    subst e
    exact I1.fpOk (Nat.le_refl _) (I1.hok.fresh (Nat.le_refl _))
noncomputable def iRng1 (ta : TA) : TI := fun σ H R => ta σ H fun vs H1 => ∃ j : Int, vs = [.int j] ∧ -(2 ^ 62) ≤ j ∧ j < 2 ^ 62 ∧ R (Itr 0 j.toNat) H1
theorem pi_range1 {a : Expr} {ta : TA} {p pos : Pos} (hg : Gl X "range") (hm : X.mg "range" = none) (ha : PA X [a] ta) (hs : starEach [a] X.env = [(false, eval a X.env)] := by rfl) : PI X tg (.Call (.Name "range" p) [a] [] pos) (iRng1 ta) := by
  intro pins s σ H R I h
  refine Call_ (ld_blt I hg hm boot_range (PyProof.Rows.callWith_type1 (thn (ha pos pins s σ H _ I h) fun us s1 ⟨vs, H1, I1, r1, q1⟩ => ?_) hs rfl))
  obtain ⟨j, e, q1, q2, q⟩ := q1
  subst e
  cases r1 with
  | cons r rr =>
    cases rr
    obtain ⟨t, rfl⟩ := r
    exact call_range_1 (range_it I1 (by omega) (by omega) q1 q2 (by simpa using q))
/-! ### for -/
/-- W: the invariant by the turn and a measure; N: what the body is to reach -/
noncomputable def tFor (wi : TI) (g : TG) (tb : TS) : TS := fun D σ H => wi σ H fun J H1 => ∃ W : Nat → Nat → St → Hp → Prop, (∃ m, W 0 m σ H1) ∧ ∀ i m σ H, W i m σ H →
  (J.stop i H ∧ D.nx σ H) ∨ (J.go i H ∧ ∃ N : St → Hp → Prop, (∀ σ' H', N σ' H' → ∃ m', m' < m ∧ W (i + 1) m' σ' H') ∧ ∀ x H', J.yld i H x H' → g x σ H' fun σ2 H2 => tb { D with nx := N, ct := N, bk := D.nx } σ2 H2)
/-- the records at fp as they stand -/
noncomputable def pinsAt (fp : List Addr) (h : Heap) : List (Addr × Obj) := fp.filterMap fun b => (h.get? b).map fun o => (b, o)
theorem mem_pinsAt {fp : List Addr} {h : Heap} {b : Addr} {o : Obj} (hb : b ∈ fp) (e : h.get? b = some o) : (b, o) ∈ pinsAt fp h := List.mem_filterMap.mpr ⟨b, hb, by rw [e]; rfl⟩
theorem of_pinsAt {fp : List Addr} {h : Heap} {p : Addr × Obj} (hp : p ∈ pinsAt fp h) : p.1 ∈ fp ∧ h.get? p.1 = some p.2 := by
  obtain ⟨b, hb, e⟩ := List.mem_filterMap.mp hp
  cases q : h.get? b with
  | none => rw [q] at e; cases e
  | some o =>
    rw [q] at e
    have e' : (b, o) = p := Option.some.inj e
    subst e'
    exact ⟨hb, q⟩
theorem Inv.pinned {pins : List (Addr × Obj)} {σ : St} {H : Hp} {s : Shared} {fp : List Addr} (I : Inv X pins σ H s) (hf : ∀ b ∈ fp, FpOk X pins H b) (ho : ∀ b ∈ fp, ∃ o, s.heap.get? b = some o ∧ ∀ v, o.data ≠ .cell v) : Inv X (pins ++ pinsAt fp s.heap) σ H s :=
  I.pins_of fun p hp => (List.mem_append.mp hp).elim (fun z => I.pin p (List.mem_append_right _ z)) fun z => by
    obtain ⟨hb, e⟩ := of_pinsAt z
    obtain ⟨f0, f1, f2, _⟩ := hf p.1 hb
    obtain ⟨o, e', d⟩ := ho p.1 hb
    rw [e] at e'; cases e'
    exact ⟨e, f0, f1, f2, d⟩
theorem Inv.unpinned {pins pl : List (Addr × Obj)} {σ : St} {H : Hp} {s : Shared} (I : Inv X (pins ++ pl) σ H s) : Inv X pins σ H s := I.pins_of fun p hp => I.pin p (List.mem_append_right _ (List.mem_append_left _ hp))
theorem ps_for {iter : Expr} {body : List Stmt} {wi : TI} {g : TG} {tb : TS} {pos : Pos} (hp : PassesOwn (model X.prog X.w) X.A X.env X.xe) (hc : X.calm = true) (hi : PI X tg iter wi) (hg : PG X tg g) (hb : PSs X body tb)
    (hs : ∀ x, foldedSetIterable iter X.env x = pure x := by intro _; rfl) : PS X (.For tg iter body [] pos) (tFor wi g tb) := by
  intro pins s σ H D I h
  refine wpAny_For (thn (hi pins s σ H _ I h) fun v s1 h1 => thn h1 fun itv s2 h2 => ?_) hs
  obtain ⟨it, fp, tn, J, H2, e, I2, T, st2, f2, W, ⟨m0, w0⟩, turn⟩ := h2
  subst e
  -- what stays true of the iterator's objects through the loop
  have stat : ∀ {H' : Hp}, (∀ b ∈ fp, H' b = none) → ∀ b ∈ fp, FpOk X pins H' b := fun hn b hb => ⟨hn b hb, (f2 b hb).2⟩
  refine codeAny_forLoop_any (fun n s' => ∃ i σ' H', Inv X pins σ' H' s' ∧ tn i s'.heap ∧ (∀ b ∈ fp, H' b = none) ∧ W i n σ' H') ?_ m0 ⟨0, σ, H2, I2, st2, fun b hb => (f2 b hb).1, w0⟩
  rintro n s3 ⟨i, σ3, H3, I3, st3, fr3, w3⟩
  rcases turn i n σ3 H3 w3 with ⟨stop, qn⟩ | ⟨go, N, hN, step⟩
  · refine wpAny_passesOwn hp (thn (T.done X rfl rfl rfl hc i pins s3 σ3 H3 X.xe I3 (stat fr3) st3 stop) fun r s4 ⟨hr, I4⟩ => ?_)
    subst hr
    exact wpAny_execs_nil ⟨σ3, H3, I4, qn⟩
  · refine wpAny_passesOwn hp (thn (T.item X rfl rfl rfl hc i pins s3 σ3 H3 X.xe I3 (stat fr3) st3 go) fun r s4 ⟨u, hr, h4⟩ => ?_)
    subst hr
    refine wpAny_passesOwn hp (thn h4 fun _ s5 ⟨x, H5, I5, r5, y5, st5, fr5⟩ => ?_)
    have I5' := I5.pinned (stat fr5) (T.obj _ _ st5)
    refine wpAny_passesOwn hp (thn (hg _ s5 σ3 H5 x u _ I5' r5 (step x H5 y5)) fun _ s6 ⟨σ6, H6, I6, q6⟩ => ?_)
    refine wpAny_passesOwn hp (thn (hb _ s6 σ6 H6 _ I6 q6) fun f s7 q7 => ?_)
    have again : ∀ {σ7 : St} {H7 : Hp}, Inv X (pins ++ pinsAt fp s5.heap) σ7 H7 s7 → N σ7 H7 → ∃ m, m < n ∧ ∃ i σ' H', Inv X pins σ' H' s7 ∧ tn i s7.heap ∧ (∀ b ∈ fp, H' b = none) ∧ W i m σ' H' := fun {σ7 H7} I7 n7 => by
      obtain ⟨m', hm, w7⟩ := hN σ7 H7 n7
      refine ⟨m', hm, i + 1, σ7, H7, I7.unpinned, T.keep _ _ _ st5 fun b hb o e => (I7.pin (b, o) (List.mem_append_right _ (List.mem_append_right _ (mem_pinsAt hb e)))).1, fun b hb => ?_, w7⟩
      obtain ⟨o, e, d⟩ := T.obj _ _ st5 b hb
      exact (I7.pin (b, o) (List.mem_append_right _ (List.mem_append_right _ (mem_pinsAt hb e)))).2.1
    cases f with
    | next => obtain ⟨σ7, H7, I7, n7⟩ := q7; exact again I7 n7
    | cont => obtain ⟨σ7, H7, I7, n7⟩ := q7; exact again I7 n7
    | brk => obtain ⟨σ7, H7, I7, q7⟩ := q7; exact ⟨σ7, H7, I7.unpinned, q7⟩
    | ret v => obtain ⟨x7, σ7, H7, I7, r7, q7⟩ := q7; exact ⟨x7, σ7, H7, I7.unpinned, r7, q7⟩
end

/-! ### the forms one uses -/
/-- over a list that the body leaves as it is -/
theorem for_list {K : PySem.W.Frag} {a : Addr} {xs : List V} {g : TG} {tb : TS} {D : Ends} {σ : St} {H : Hp} (Pv : Nat → St → Hp → Prop) (h0 : Pv 0 σ H) (hl : ∀ i σ H, i ≤ xs.length → Pv i σ H → SqL K H a xs)
    (hs : ∀ i x σ H, xs[i]? = some x → Pv i σ H → g x σ H fun σ2 H2 => tb { D with nx := Pv (i + 1), ct := Pv (i + 1), bk := D.nx } σ2 H2) (hd : ∀ σ H, Pv xs.length σ H → D.nx σ H) :
    ∃ W : Nat → Nat → St → Hp → Prop, (∃ m, W 0 m σ H) ∧ ∀ i m σ H, W i m σ H →
      ((Itl K a).stop i H ∧ D.nx σ H) ∨ ((Itl K a).go i H ∧ ∃ N : St → Hp → Prop, (∀ σ' H', N σ' H' → ∃ m', m' < m ∧ W (i + 1) m' σ' H') ∧ ∀ x H', (Itl K a).yld i H x H' → g x σ H' fun σ2 H2 => tb { D with nx := N, ct := N, bk := D.nx } σ2 H2) := by
  refine ⟨fun i m σ H => m = xs.length - i ∧ i ≤ xs.length ∧ Pv i σ H, ⟨xs.length, by simp, Nat.zero_le _, h0⟩, ?_⟩
  rintro i m σ H ⟨rfl, hi, p⟩
  have q := hl i σ H hi p
  by_cases hlt : i < xs.length
  · refine .inr ⟨⟨xs, xs[i], q, by simp [hlt]⟩, Pv (i + 1), fun σ' H' p' => ⟨xs.length - (i + 1), by omega, rfl, hlt, p'⟩, fun x H' y => ?_⟩
    obtain ⟨e, y⟩ := y
    subst e
    exact hs i x σ _ (y xs q) p
  · have e : i = xs.length := by omega
    subst e
    exact .inl ⟨⟨xs, q, Nat.le_refl _⟩, hd σ H p⟩
theorem for_range {lo : Int} {n : Nat} {g : TG} {tb : TS} {D : Ends} {σ : St} {H : Hp} (Pv : Nat → St → Hp → Prop) (h0 : Pv 0 σ H)
    (hs : ∀ i σ H, i < n → Pv i σ H → g (.int (lo + i)) σ H fun σ2 H2 => tb { D with nx := Pv (i + 1), ct := Pv (i + 1), bk := D.nx } σ2 H2) (hd : ∀ σ H, Pv n σ H → D.nx σ H) :
    ∃ W : Nat → Nat → St → Hp → Prop, (∃ m, W 0 m σ H) ∧ ∀ i m σ H, W i m σ H →
      ((Itr lo n).stop i H ∧ D.nx σ H) ∨ ((Itr lo n).go i H ∧ ∃ N : St → Hp → Prop, (∀ σ' H', N σ' H' → ∃ m', m' < m ∧ W (i + 1) m' σ' H') ∧ ∀ x H', (Itr lo n).yld i H x H' → g x σ H' fun σ2 H2 => tb { D with nx := N, ct := N, bk := D.nx } σ2 H2) := by
  refine ⟨fun i m σ H => m = n - i ∧ i ≤ n ∧ Pv i σ H, ⟨n, by simp, Nat.zero_le _, h0⟩, ?_⟩
  rintro i m σ H ⟨rfl, hi, p⟩
  by_cases hlt : i < n
  · refine .inr ⟨hlt, Pv (i + 1), fun σ' H' p' => ⟨n - (i + 1), by omega, rfl, hlt, p'⟩, fun x H' y => ?_⟩
    obtain ⟨e, y⟩ := y
    subst e y
    exact hs i σ _ hlt p
  · have e : i = n := by omega
    subst e
    exact .inl ⟨Nat.le_refl _, hd σ H p⟩
end L2

namespace L2
open PySem PySem.Spec PyProof.Rows

noncomputable abbrev R2 := V → V → Hp → VK → Prop
/-- a two-place operation on values: f is binaryOp op, inplaceOp op or compareOp op -/
noncomputable def OpR (X : Cx) (f : Value → Value → Sem Value) (r : R2) : Prop :=
  ∀ (pins : List (Addr × Obj)) (s : Shared) (σ : St) (H : Hp) (x y : V) (v u : Value) (Q : VK), Inv X pins σ H s → RelV x v → RelV y u → r x y H Q →
    wpAny (model X.prog X.w) X.A (f v u) (EP X pins σ Q) X.xe s
/-- a one-place operation -/
noncomputable def UnR (X : Cx) (f : Value → Sem Value) (r : V → Hp → VK → Prop) : Prop :=
  ∀ (pins : List (Addr × Obj)) (s : Shared) (σ : St) (H : Hp) (x : V) (v : Value) (Q : VK), Inv X pins σ H s → RelV x v → r x H Q →
    wpAny (model X.prog X.w) X.A (f v) (EP X pins σ Q) X.xe s
/-- a call of a value that is known (a builtin, a type) with values -/
noncomputable def CallR (X : Cx) (f : Value) (r : List V → Hp → VK → Prop) : Prop :=
  ∀ (pins : List (Addr × Obj)) (s : Shared) (σ : St) (H : Hp) (xs : List V) (us : List Value) (Q : VK), Inv X pins σ H s → Vals xs us → r xs H Q →
    wpAny (model X.prog X.w) X.A (call f us) (EP X pins σ Q) X.xe s
@[reducible] noncomputable def tOp (r : R2) (ta tb : TE) : TE := fun σ H Q => ta σ H fun x H1 => tb σ H1 fun y H2 => r x y H2 Q
noncomputable def tUn (r : V → Hp → VK → Prop) (ta : TE) : TE := fun σ H Q => ta σ H fun x H1 => r x H1 Q
/-- ints in, under C, and a value out -/
noncomputable def rI (C : Int → Int → Prop) (g : Int → Int → V) : R2 := fun x y H Q => ∃ i j, x = .int i ∧ y = .int j ∧ C i j ∧ Q (g i j) H
noncomputable def rI0 (g : Int → Int → V) : R2 := fun x y H Q => ∃ i j, x = .int i ∧ y = .int j ∧ Q (g i j) H
noncomputable def rU (g : Int → V) : V → Hp → VK → Prop := fun x H Q => ∃ i, x = .int i ∧ Q (g i) H

section
variable {X : Cx} {a b c : Expr} {ta tb tc : TE} {pos : Pos}

theorem binT (ha : PE X a ta) (hb : PE X b tb) {pins : List (Addr × Obj)} {s : Shared} {σ : St} {H : Hp} {R : V → V → Hp → Prop} (I : Inv X pins σ H s)
    (h : ta σ H fun x H1 => tb σ H1 fun y H2 => R x y H2) {Q : Value → Shared → Prop} {f : Value → Value → Sem Value}
    (hf : ∀ v u s2 x y H2, Inv X pins σ H2 s2 → RelV x v → RelV y u → R x y H2 → wpAny (model X.prog X.w) X.A (f v u) Q X.xe s2) :
    wpAny (model X.prog X.w) X.A (eval a X.env) (fun v s₁ => wpAny (model X.prog X.w) X.A (eval b X.env) (fun u s₂ => wpAny (model X.prog X.w) X.A (f v u) Q X.xe s₂) X.xe s₁) X.xe s := by
  refine thn (ha pins s σ H _ I h) fun v s1 ⟨x, H1, I1, r1, q1⟩ => ?_
  refine thn (hb pins s1 σ H1 _ I1 q1) fun u s2 ⟨y, H2, I2, r2, q2⟩ => ?_
  exact hf v u s2 x y H2 I2 r1 r2 q2

theorem pe_op {op : Operator} {r : R2} (ho : OpR X (binaryOp op) r) (ha : PE X a ta) (hb : PE X b tb) : PE X (.BinOp a op b pos) (tOp r ta tb) := by
  intro pins s σ H Q I h
  exact wpAny_BinOp (binT ha hb I h fun v u s2 x y H2 I2 rx ry q => ho pins s2 σ H2 x y v u Q I2 rx ry q)
theorem pe_un {op : UnaryOp} {r : V → Hp → VK → Prop} (ho : UnR X (unaryOp op) r) (ha : PE X a ta) : PE X (.UnaryOp op a pos) (tUn r ta) := by
  intro pins s σ H Q I h
  exact UnaryOp_ (thn (ha pins s σ H _ I h) fun v s1 ⟨x, H1, I1, r1, q1⟩ => ho pins s1 σ H1 x v Q I1 r1 q1)
/-! ### ints -/
theorem opI {f : Value → Value → Sem Value} {C : Int → Int → Prop} {g : Int → Int → Int}
    (rule : ∀ (i j : Int) (t u : Tok) (s : Shared) (Q : Value → Shared → Prop) (E : Value → Shared → Prop), C i j → Q (.int (g i j) s.toks) { s with toks := s.toks + 1 } → wpAny (model X.prog X.w) X.A (f (.int i t) (.int j u)) Q E s) :
    OpR X f (rI C fun i j => .int (g i j)) := by
  intro pins s σ H x y v u Q I rx ry h
  obtain ⟨i, j, rfl, rfl, hc, q⟩ := h
  obtain ⟨t, rfl⟩ := rx
  obtain ⟨t', rfl⟩ := ry
  exact rule i j t t' s _ _ hc ⟨.int (g i j), H, I.tok _, ⟨_, rfl⟩, q⟩
theorem opI0 {f : Value → Value → Sem Value} {g : Int → Int → Int}
    (rule : ∀ (i j : Int) (t u : Tok) (s : Shared) (Q : Value → Shared → Prop) (E : Value → Shared → Prop), Q (.int (g i j) s.toks) { s with toks := s.toks + 1 } → wpAny (model X.prog X.w) X.A (f (.int i t) (.int j u)) Q E s) :
    OpR X f (rI0 fun i j => .int (g i j)) := by
  intro pins s σ H x y v u Q I rx ry h
  obtain ⟨i, j, rfl, rfl, q⟩ := h
  obtain ⟨t, rfl⟩ := rx
  obtain ⟨t', rfl⟩ := ry
  exact rule i j t t' s _ _ ⟨.int (g i j), H, I.tok _, ⟨_, rfl⟩, q⟩
theorem opB0 {f : Value → Value → Sem Value} {g : Int → Int → Bool}
    (rule : ∀ (i j : Int) (t u : Tok) (s : Shared) (Q : Value → Shared → Prop) (E : Value → Shared → Prop), Q (.bool (g i j)) s → wpAny (model X.prog X.w) X.A (f (.int i t) (.int j u)) Q E s) :
    OpR X f (rI0 fun i j => .bl (g i j)) := by
  intro pins s σ H x y v u Q I rx ry h
  obtain ⟨i, j, rfl, rfl, q⟩ := h
  obtain ⟨t, rfl⟩ := rx
  obtain ⟨t', rfl⟩ := ry
  exact rule i j t t' s _ _ ⟨.bl (g i j), H, I, rfl, q⟩

noncomputable def CDiv (i j : Int) : Prop := 0 < j ∧ j < 1073741824
noncomputable def CMul (i j : Int) : Prop := (-(2 ^ 64) < i ∧ i < 2 ^ 64) ∨ (-(2 ^ 64) < j ∧ j < 2 ^ 64)
theorem CMul.ok {i j : Int} (h : CMul i j) : IntMulOk i j := by
  rcases h with ⟨h1, h2⟩ | ⟨h1, h2⟩
  · exact .of_left (intBits_le_64 h1 h2)
  · exact .of_right (intBits_le_64 h1 h2)
theorem op_add : OpR X (binaryOp .Add) (rI0 fun i j => .int (i + j)) := opI0 fun _ _ _ _ _ _ _ q => add_int q
theorem op_sub : OpR X (binaryOp .Sub) (rI0 fun i j => .int (i - j)) := opI0 fun _ _ _ _ _ _ _ q => sub_int q
theorem op_mul : OpR X (binaryOp .Mult) (rI CMul fun i j => .int (i * j)) := opI fun _ _ _ _ _ _ _ hc q => mul_int q hc.ok
/-- // by a positive divisor -/
theorem op_fdiv : OpR X (binaryOp .FloorDiv) (rI CDiv fun i j => .int (i / j)) := opI fun i j _ _ _ _ _ hc q => by
  have h1 : (0 : Int) < j := hc.1
  have h2 : j < 1073741824 := hc.2
  exact floordiv_int (by omega) (by rw [Int.fdiv_eq_ediv_of_nonneg i (by omega)]; exact q) (.inl (PyProof.noPylong_small (by omega)))
/-- % by a positive divisor of any size -/
theorem op_mod : OpR X (binaryOp .Mod) (rI (fun _ j => 0 < j) fun i j => .int (i % j)) := opI fun i j _ _ _ _ _ hc q => by
  have h1 : (0 : Int) < j := hc
  exact mod_int' (by omega) (by rw [Int.fmod_eq_emod_of_nonneg i (by omega)]; exact q)
theorem unI {f : Value → Sem Value} {g : Int → Int}
    (rule : ∀ (i : Int) (t : Tok) (s : Shared) (Q : Value → Shared → Prop) (E : Value → Shared → Prop), Q (.int (g i) s.toks) { s with toks := s.toks + 1 } → wpAny (model X.prog X.w) X.A (f (.int i t)) Q E s) :
    UnR X f (rU fun i => .int (g i)) := by
  intro pins s σ H x v Q I rx h
  obtain ⟨i, rfl, q⟩ := h
  obtain ⟨t, rfl⟩ := rx
  exact rule i t s _ _ ⟨.int (g i), H, I.tok _, ⟨_, rfl⟩, q⟩
theorem un_neg : UnR X (unaryOp .USub) (rU fun i => .int (-i)) := unI fun _ _ _ _ _ q => neg_int q
/-! ### bools among ints: n += (a < b) -/
end

/-! ### comparisons -/
/-- the scalars that == tells apart as data does -/
noncomputable def scal : V → V → Bool
  | .non, .non => true | .non, .int _ => true | .int _, .non => true | .non, .bl _ => true | .bl _, .non => true | .non, .str _ => true | .str _, .non => true
  | .int _, .int _ => true | .bl _, .bl _ => true | .str _, .str _ => true | .byt _, .byt _ => true
  | .int _, .str _ => true | .str _, .int _ => true | .bl _, .str _ => true | .str _, .bl _ => true
  | _, _ => false
noncomputable def rEq : R2 := fun x y H Q => scal x y = true ∧ Q (.bl (decide (x = y))) H
noncomputable def rNe : R2 := fun x y H Q => scal x y = true ∧ Q (.bl (!decide (x = y))) H

theorem dec_int {i j : Int} : decide (V.int i = V.int j) = (i == j) := by
  rw [Bool.eq_iff_iff]
  simp
theorem dec_bl {i j : Bool} : decide (V.bl i = V.bl j) = (i == j) := by
  rw [Bool.eq_iff_iff]
  simp
theorem dec_str {i j : Str} : decide (V.str i = V.str j) = (i == j) := by
  rw [Bool.eq_iff_iff]
  simp
theorem dec_byt {i j : Array UInt8} : decide (V.byt i = V.byt j) = (i.toList == j.toList) := by
  rw [Bool.eq_iff_iff]
  cases i
  cases j
  simp

section
variable {X : Cx} {a b c : Expr} {ta tb tc : TE} {pos : Pos}
theorem fin_bl {pins : List (Addr × Obj)} {σ : St} {H : Hp} {s : Shared} {Q : VK} {k k' : Bool} (I : Inv X pins σ H s) (q : Q (.bl k) H) (e : k = k') : EP X pins σ Q (.bool k') s := by
  subst e
  exact ⟨.bl k, H, I, rfl, q⟩
theorem op_eq : OpR X (compareOp .Eq) rEq := by
  intro pins s σ H x y v u Q I rx ry h
  obtain ⟨hs, q⟩ := h
  cases x with
  | non =>
    cases rx
    cases y with
    | non => cases ry; exact PySem.EqNone.eq_none_none (fin_bl I q (by simp))
    | bl j => cases ry; exact PySem.EqNone.eq_none_bool (fin_bl I q (by simp))
    | int j => obtain ⟨t', rfl⟩ := ry; exact PySem.EqNone.eq_none_int (fin_bl I q (by simp))
    | str j => obtain ⟨t', rfl⟩ := ry; exact PySem.EqNone.eq_none_str (fin_bl I q (by simp))
    | _ => exact absurd (show false = true from hs) Bool.false_ne_true
  | bl i =>
    cases rx
    cases y with
    | non => cases ry; exact PySem.EqNone.eq_bool_none (fin_bl I q (by simp))
    | bl j => cases ry; exact eq_bool (fin_bl I q dec_bl)
    | str j => obtain ⟨t', rfl⟩ := ry; exact PySem.EqMixed.eq_bool_str (fin_bl I q (by simp))
    | _ => exact absurd (show false = true from hs) Bool.false_ne_true
  | int i =>
    obtain ⟨t, rfl⟩ := rx
    cases y with
    | non => cases ry; exact PySem.EqNone.eq_int_none (fin_bl I q (by simp))
    | int j => obtain ⟨t', rfl⟩ := ry; exact eq_int (fin_bl I q dec_int)
    | str j => obtain ⟨t', rfl⟩ := ry; exact PySem.EqMixed.eq_int_str (fin_bl I q (by simp))
    | _ => exact absurd (show false = true from hs) Bool.false_ne_true
  | str i =>
    obtain ⟨t, rfl⟩ := rx
    cases y with
    | non => cases ry; exact PySem.EqNone.eq_str_none (fin_bl I q (by simp))
    | bl j => cases ry; exact PySem.EqMixed.eq_str_bool (fin_bl I q (by simp))
    | int j => obtain ⟨t', rfl⟩ := ry; exact PySem.EqMixed.eq_str_int (fin_bl I q (by simp))
    | str j => obtain ⟨t', rfl⟩ := ry; exact eq_str (fin_bl I q dec_str)
    | _ => exact absurd (show false = true from hs) Bool.false_ne_true
  | byt i =>
    obtain ⟨t, rfl⟩ := rx
    cases y with
    | byt j => obtain ⟨t', rfl⟩ := ry; exact PySem.W.eq_bytes (fin_bl I q dec_byt)
    | _ => exact absurd (show false = true from hs) Bool.false_ne_true
  | _ => cases y <;> exact absurd (show false = true from hs) Bool.false_ne_true
theorem op_ne : OpR X (compareOp .NotEq) rNe := by
  intro pins s σ H x y v u Q I rx ry h
  obtain ⟨hs, q⟩ := h
  cases x with
  | non =>
    cases rx
    cases y with
    | non => cases ry; exact PySem.EqNone.ne_none_none (fin_bl I q (by simp))
    | bl j => cases ry; exact PySem.EqNone.ne_none_bool (fin_bl I q (by simp))
    | int j => obtain ⟨t', rfl⟩ := ry; exact PySem.EqNone.ne_none_int (fin_bl I q (by simp))
    | str j => obtain ⟨t', rfl⟩ := ry; exact PySem.EqNone.ne_none_str (fin_bl I q (by simp))
    | _ => exact absurd (show false = true from hs) Bool.false_ne_true
  | bl i =>
    cases rx
    cases y with
    | non => cases ry; exact PySem.EqNone.ne_bool_none (fin_bl I q (by simp))
    | bl j => cases ry; exact ne_bool (fin_bl I q (congrArg not dec_bl))
    | str j => obtain ⟨t', rfl⟩ := ry; exact PySem.EqMixed.ne_bool_str (fin_bl I q (by simp))
    | _ => exact absurd (show false = true from hs) Bool.false_ne_true
  | int i =>
    obtain ⟨t, rfl⟩ := rx
    cases y with
    | non => cases ry; exact PySem.EqNone.ne_int_none (fin_bl I q (by simp))
    | int j => obtain ⟨t', rfl⟩ := ry; exact ne_int (fin_bl I q (congrArg not dec_int))
    | str j => obtain ⟨t', rfl⟩ := ry; exact PySem.EqMixed.ne_int_str (fin_bl I q (by simp))
    | _ => exact absurd (show false = true from hs) Bool.false_ne_true
  | str i =>
    obtain ⟨t, rfl⟩ := rx
    cases y with
    | non => cases ry; exact PySem.EqNone.ne_str_none (fin_bl I q (by simp))
    | bl j => cases ry; exact PySem.EqMixed.ne_str_bool (fin_bl I q (by simp))
    | int j => obtain ⟨t', rfl⟩ := ry; exact PySem.EqMixed.ne_str_int (fin_bl I q (by simp))
    | str j => obtain ⟨t', rfl⟩ := ry; exact ne_str (fin_bl I q (congrArg not dec_str))
    | _ => exact absurd (show false = true from hs) Bool.false_ne_true
  | byt i =>
    obtain ⟨t, rfl⟩ := rx
    cases y with
    | byt j => obtain ⟨t', rfl⟩ := ry; exact PySem.W.ne_bytes (fin_bl I q (congrArg not dec_byt))
    | _ => exact absurd (show false = true from hs) Bool.false_ne_true
  | _ => cases y <;> exact absurd (show false = true from hs) Bool.false_ne_true

theorem op_lt : OpR X (compareOp .Lt) (rI0 fun i j => .bl (decide (i < j))) := opB0 fun _ _ _ _ _ _ _ q => lt_int q
theorem op_le : OpR X (compareOp .LtE) (rI0 fun i j => .bl (decide (i ≤ j))) := opB0 fun _ _ _ _ _ _ _ q => le_int q
theorem op_gt : OpR X (compareOp .Gt) (rI0 fun i j => .bl (decide (j < i))) := opB0 fun _ _ _ _ _ _ _ q => gt_int q
theorem op_ge : OpR X (compareOp .GtE) (rI0 fun i j => .bl (decide (j ≤ i))) := opB0 fun _ _ _ _ _ _ _ q => ge_int q
theorem nomark (b : Expr) {op : CmpOp} (h : op ≠ .In := by decide) (h2 : op ≠ .NotIn := by decide) : behindInMarks op b = false := by
  have e1 : (op == CmpOp.In) = false := by cases op <;> first | rfl | exact absurd rfl h
  have e2 : (op == CmpOp.NotIn) = false := by cases op <;> first | rfl | exact absurd rfl h2
  cases b <;> simp [behindInMarks, e1, e2]
/-- a comparison as a value; hm: nomark b, or (for in, not in) by with_unfolding_all rfl -/
theorem pe_cmpR {op : CmpOp} {r : R2} (ho : OpR X (compareOp op) r) (ha : PE X a ta) (hb : PE X b tb) (hm : behindInMarks op b = false) : PE X (.Compare a [op] [b] pos) (tOp r ta tb) := by
  intro pins s σ H Q I h
  exact wpAny_Compare1 (binT ha hb I h fun v u s2 x y H2 I2 rx ry q => ho pins s2 σ H2 x y v u Q I2 rx ry q) hm
/-- a reading of a value as a test -/
@[reducible] noncomputable def tTest (t : TE) : TT := fun σ H Q => t σ H fun x H' => ∃ k, x = .bl k ∧ Q k H'
theorem pt_cmpR {op : CmpOp} {r : R2} (ho : OpR X (compareOp op) r) (ha : PE X a ta) (hb : PE X b tb) (hm : behindInMarks op b = false) : PT X (.Compare a [op] [b] pos) (tTest (tOp r ta tb)) := by
  intro pins s σ H Q I h
  refine wpAny_isTrue_Compare1 (thn (ha pins s σ H _ I h) fun v s1 ⟨x, H1, I1, r1, q1⟩ => thn (hb pins s1 σ H1 _ I1 q1) fun u s2 ⟨y, H2, I2, r2, q2⟩ =>
    thn (ho pins s2 σ H2 x y v u _ I2 r1 r2 q2) fun c s3 ⟨z, H3, I3, r3, k, e, q3⟩ => ?_) hm
  subst e
  cases r3
  exact wpAny_truthy_bool ⟨H3, I3, q3⟩
/-! ### truth -/
theorem line63 : (sizeLine : Nat) < 2 ^ 63 := by rw [sizeLine_eq]; decide
/-! ### strs and bytes -/
/-! ### scalar builtins, by CallR -/
theorem vals1 {x : V} {us : List Value} (r : Vals [x] us) : ∃ u, us = [u] ∧ RelV x u := by
  cases r with
  | cons r1 r2 => cases r2; exact ⟨_, rfl, r1⟩
theorem vals2 {x y : V} {us : List Value} (r : Vals [x, y] us) : ∃ u w', us = [u, w'] ∧ RelV x u ∧ RelV y w' := by
  cases r with
  | cons r1 r2 =>
    cases r2 with
    | cons r3 r4 => cases r4; exact ⟨_, _, rfl, r1, r3⟩
theorem call_min2 (hc : X.calm = true) : CallR X (.builtin "min") (fun xs H Q => ∃ i j, xs = [.int i, .int j] ∧ Q (.int (if j < i then j else i)) H) := by
  intro pins s σ H xs us Q I r h
  obtain ⟨i, j, rfl, q⟩ := h
  obtain ⟨u, w', rfl, ⟨t, rfl⟩, ⟨t', rfl⟩⟩ := vals2 r
  refine min_two_ints (I.ok.hd hc) fun h' tk k => ⟨_, H, I.kept k, ?_, q⟩
  by_cases hj : j < i
  · rw [if_pos hj, if_pos hj]; exact ⟨_, rfl⟩
  · rw [if_neg hj, if_neg hj]; exact ⟨_, rfl⟩
end
end L2

namespace L2
open PySem PySem.Spec PyProof.Rows

/-! ### an instance, its attributes a map -/
structure ObjM (h : Heap) (x dx C : Addr) (mA : Str → Option Value) : Prop where
  obj : h.get? x = some (PySem.W.instObj C dx)
  ns : h.Ns1 dx mA
  ne : dx ≠ x

theorem lookIn_ns {h : Heap} {dx : Addr} {mA : Str → Option Value} (n : h.Ns1 dx mA) : ∃ od, h.get? dx = some od ∧ ∀ name, PySem.W.lookIn name od = some (mA name) := by
  obtain ⟨o, es, ep, ho, hd, hk, _, hm⟩ := n
  refine ⟨o, ho, fun name => ?_⟩
  have e := hm name
  unfold nsFind findBy at e
  rw [← Array.find?_toList] at e
  unfold PySem.W.lookIn
  rw [hd]
  dsimp only
  split
  · rename_i y q
    rw [q] at e
    exact congrArg some e
  · rename_i q
    rw [q] at e
    have a : es.toList.any (·.refKey) = false := by
      rw [List.any_eq_false]
      intro y hy
      obtain ⟨z, t, hkey⟩ := hk y (Array.mem_toList_iff.mp hy)
      simp [DictEntry.refKey, hkey]
    have a' : ¬ es.toList.any (·.refKey) = true := by rw [a]; exact Bool.false_ne_true
    rw [if_neg a']
    exact congrArg some e

theorem ObjM.look {h : Heap} {x dx C : Addr} {mA : Str → Option Value} (I : ObjM h x dx C mA) : ∃ od, PySem.W.InstAt h x (PySem.W.instObj C dx) C (some od) ∧ ∀ name, PySem.W.lookIn name od = some (mA name) :=
  let ⟨od, ho, hl⟩ := lookIn_ns I.ns
  ⟨od, ⟨I.obj, rfl, rfl, ho⟩, hl⟩

section
variable {prog : Program} {w : World} {A : Around} {E : Value → Shared → Prop} {s : Shared} {K : PySem.W.Frag} {x dx C f : Addr} {mA : Str → Option Value} {name : Str} {v : Value}

theorem get_map {expr : Bool} {Q : Value → Shared → Prop} (X : K.In s.heap) (I : ObjM s.heap x dx C mA) (hg : PySem.W.plainGet K C name = true) (hh : PySem.W.hasDictIn K C = true)
    (ha : PySem.W.findIn K (.ref C) name = some none) (hv : mA name = some v) (hv' : PySem.W.handedIn v = true) (h : Q v { s with toks := s.toks + 1 }) :
    wpAny (model prog w) A (getAttr (.ref x) name expr) Q E s := by
  obtain ⟨od, J, hl⟩ := I.look
  exact PySem.W.get_value X J (PySem.W.plainGet_of hg).1 (PySem.W.findObj_own hh ha rfl (by rw [hl, hv])) hv' h

theorem get_meth {pl : Sem Bool} {Q : Value × List Value → Shared → Prop} (X : K.In s.heap) (I : ObjM s.heap x dx C mA) (hg : PySem.W.plainGet K C name = true)
    (hf : PySem.W.findIn K (.ref C) name = some (some (.ref f))) (ht : PySem.W.isFn K (.ref f) = true) (hv : mA name = none) (h : Q (.ref f, [.ref x]) s) :
    wpAny (model prog w) A (getMethod (.ref x) name pl) Q E s := by
  obtain ⟨od, J, hl⟩ := I.look
  exact PySem.W.method_fn X J (PySem.W.plainGet_of hg).1 (PySem.W.plainGet_of hg).2 hf (beq_iff_eq.mp ht) (by show (PySem.W.lookIn name od).map (·.isSome) = some false; rw [hl, hv]; rfl) h

theorem set_map {ns : List Str} {Q : Unit → Shared → Prop} (X : K.In s.heap) (I : ObjM s.heap x dx C mA)
    (hs : PySem.W.findIn K (.ref C) "__setattr__" = some (some (.builtin "object.__setattr__"))) (hp : PySem.W.plainOver K C = true) (ht : PySem.W.takerIn K C name = some none) (hh : PySem.W.hasDictIn K C = true)
    (hw : PySem.Within mA ns) (hsz : ns.length ≤ sizeLine)
    (h : ∀ h', ObjM h' x dx C (fun y => if y = name then some v else mA y) → Heap.SameBut dx s.heap h' → Q () { s with heap := h', toks := s.toks + 2 }) :
    wpAny (model prog w) A (setAttr (.ref x) name v) Q E s := by
  obtain ⟨od, J, hl⟩ := I.look
  refine PySem.W.set_plain X J hs (PySem.W.osa_open (s := { s with toks := s.toks + 1 }) (r := none) X J hp ht fun b => ?_)
  obtain ⟨cd, hc, hd'⟩ := PySem.W.any_some hh
  have hx : s.heap.get? x = some ⟨.ref C, some dx, .plain, #[]⟩ := I.obj
  refine wpAny_bind (wpAny_pure (wpAny_bind (wpAny_bind (wpAny_loadPart hx (wpAny_bind (PySem.W.Looks.here (s := { s with toks := s.toks + 1 }) (PySem.W.looks_clsIn X hc) ?_))))))
  rw [hd']
  refine wpAny_pure (a := some dx) (wpAny_bind (wpAny_pure (wpAny_bind ?_)))
  refine wpAny_nsSet1 (s := { s with toks := s.toks + 1 }) I.ns fun h' hn2 hs2 => ?_
  obtain ⟨oD, esD, epD, hoD, hdD, hcD⟩ := hn2.count (PySem.Within.cons name v hw)
  refine wpAny_bind (wpAny_lookBehind hoD (by rw [hdD]; exact pastItsLine_dict (Nat.le_trans hcD (by rw [List.length_cons]; omega))) ?_)
  exact wpAny_pure (h _ ⟨(hs2.2 _ (Ne.symm I.ne)).trans I.obj, hn2, I.ne⟩ hs2)

/-- C(..): the dict at the heap's end, the instance behind it; then its __init__ -/
theorem make_map {R : Result → Shared → Prop} {vs : List Value} {kw : List (Str × Value)} (X : K.In s.heap) (hm : PySem.W.makesIn K C = true)
    (hi : PySem.W.findIn K (.ref C) "__init__" = some (some (.ref f))) (hf : PySem.W.typeIn K (.ref f) = some (.type "function"))
    (h : codeAny (model prog w) (A.under (.builtin "type.__call__" ⟨.ref C :: vs, kw⟩)) (.call (.ref f) ⟨.ref (s.heap.objs.size + 1) :: vs, kw⟩) (PySem.W.InitBack (s.heap.objs.size + 1) R)
      { s with heap := (s.heap.push PySem.W.emptyDict).push (PySem.W.instObj C s.heap.objs.size) }) :
    codeAny (model prog w) A (.call (.ref C) ⟨vs, kw⟩) R s := by
  obtain ⟨hh, g, d, t, os⟩ := s
  exact PySem.W.make_core (PySem.W.makes_of X hm) (PySem.W.looks_findIn X hi) (fun self => PySem.W.bind_fn X self hf) (.inl rfl) h
end

/-! ### the attributes as a list of pairs -/
noncomputable def putF (f : Str) (v : V) : List (Str × V) → List (Str × V)
  | [] => [(f, v)]
  | (g, x) :: r => if g = f then (g, v) :: r else (g, x) :: putF f v r
theorem lookup_putF (f g : Str) (v : V) : ∀ fs : List (Str × V), (putF f v fs).lookup g = if g = f then some v else fs.lookup g
  | [] => by
    show List.lookup g [(f, v)] = _
    by_cases h : g = f
    · have hb : (g == f) = true := beq_iff_eq.mpr h
      simp only [List.lookup, hb, if_pos h]
    · have hb : (g == f) = false := beq_eq_false_iff_ne.mpr h
      simp only [List.lookup, hb, if_neg h]
  | (k, x) :: r => by
    have ih := lookup_putF f g v r
    rw [show putF f v ((k, x) :: r) = (if k = f then (k, v) :: r else (k, x) :: putF f v r) from rfl]
    by_cases hk : k = f
    · rw [if_pos hk]
      by_cases h : g = k
      · have hb : (g == k) = true := beq_iff_eq.mpr h
        simp only [List.lookup, hb, if_pos (h.trans hk)]
      · have hb : (g == k) = false := beq_eq_false_iff_ne.mpr h
        simp only [List.lookup, hb, if_neg (fun e : g = f => h (e.trans hk.symm))]
    · rw [if_neg hk]
      by_cases h : g = k
      · have hb : (g == k) = true := beq_iff_eq.mpr h
        simp only [List.lookup, hb, if_neg (fun e : g = f => hk (h.symm.trans e))]
      · have hb : (g == k) = false := beq_eq_false_iff_ne.mpr h
        simp only [List.lookup, hb]
        exact ih
theorem keys_putF (f : Str) (v : V) : ∀ fs : List (Str × V), f ∈ (putF f v fs).map (·.1) ∧ ∀ g, g ∈ fs.map (·.1) → g ∈ (putF f v fs).map (·.1)
  | [] => ⟨by simp [putF], fun g h => by simp at h⟩
  | (k, x) :: r => by
    obtain ⟨i1, i2⟩ := keys_putF f v r
    rw [show putF f v ((k, x) :: r) = (if k = f then (k, v) :: r else (k, x) :: putF f v r) from rfl]
    by_cases hk : k = f
    · rw [if_pos hk]
      subst hk
      exact ⟨by simp, fun g h => by simpa using h⟩
    · rw [if_neg hk]
      refine ⟨?_, fun g h => ?_⟩
      · rw [List.map_cons]
        exact List.mem_cons_of_mem _ i1
      · rw [List.map_cons] at h ⊢
        rcases List.mem_cons.mp h with e | e
        · exact List.mem_cons.mpr (.inl e)
        · exact List.mem_cons_of_mem _ (i2 g e)
theorem length_putF (f : Str) (v : V) : ∀ fs : List (Str × V), (putF f v fs).length ≤ fs.length + 1
  | [] => by simp [putF]
  | (k, x) :: r => by
    have ih := length_putF f v r
    rw [show putF f v ((k, x) :: r) = (if k = f then (k, v) :: r else (k, x) :: putF f v r) from rfl]
    by_cases hk : k = f
    · rw [if_pos hk, List.length_cons, List.length_cons]; omega
    · rw [if_neg hk, List.length_cons, List.length_cons]; omega

theorem RelO.some_of {v : V} {o : Option Value} (r : RelO (some v) o) : ∃ u, o = some u ∧ RelV v u := by
  cases o with
  | none => exact (show False from r).elim
  | some u => exact ⟨u, rfl, r⟩
theorem RelO.none_of {o : Option Value} (r : RelO none o) : o = none := by
  cases o with
  | none => rfl
  | some u => exact (show False from r).elim
theorem handed_of {v : V} {u : Value} (r : RelV v u) : PySem.W.handedIn u = true := by
  cases v with
  | non => cases (show u = Value.none from r); rfl
  | bl b => cases (show u = Value.bool b from r); rfl
  | int i => obtain ⟨t, e⟩ := (show ∃ t, u = Value.int i t from r); cases e; rfl
  | str x => obtain ⟨t, e⟩ := (show ∃ t, u = Value.str x t from r); cases e; rfl
  | byt b => obtain ⟨t, e⟩ := (show ∃ t, u = Value.bytes b t from r); cases e; rfl
  | flt b => obtain ⟨t, e⟩ := (show ∃ t, u = Value.float b t from r); cases e; rfl
  | ref a => cases (show u = Value.ref a from r); rfl
  | ty n => cases (show u = Value.type n from r); rfl

section
variable {P : Program} {w : World} {H H' : Hp} {h h' : Heap} {a C dx : Addr} {fs fs' : List (Str × V)}
theorem ins_get (hok : HOk P w H h) (e : H a = some (.ins C dx fs)) : ∃ mA, ObjM h a dx C mA ∧ (∀ f, RelO (fs.lookup f) (mA f)) ∧ PySem.Within mA (fs.map (·.1)) ∧ fs.length ≤ 1000 ∧ H dx = some (.own a) := by
  obtain ⟨d, z, ne, ob, mA, n, r, q⟩ := (show ObjOk P w H h a (.ins C dx fs) from hok a _ e)
  exact ⟨mA, ⟨ob, n, ne⟩, r, q, z, d⟩
end

/-! ### what of the text a class must have -/
structure Cls (K : PySem.W.Frag) (C : Addr) : Prop where
  pg : PySem.W.plainGet K C Str.empty = true
  hd : PySem.W.hasDictIn K C = true
  po : PySem.W.plainOver K C = true
  sa : PySem.W.findIn K (.ref C) "__setattr__" = some (some (.builtin "object.__setattr__"))
theorem Cls.get {K : PySem.W.Frag} {C : Addr} (c : Cls K C) (f : Str) : PySem.W.plainGet K C f = true := c.pg
/-- no class of it has the name -/
noncomputable def NoAttr (K : PySem.W.Frag) (C : Addr) (f : Str) : Prop := PySem.W.findIn K (.ref C) f = some none
theorem NoAttr.taker {K : PySem.W.Frag} {C : Addr} {f : Str} (n : NoAttr K C f) : PySem.W.takerIn K C f = some none := by
  unfold PySem.W.takerIn
  rw [show PySem.W.findIn K (.ref C) f = some none from n]
  rfl
/-- a method: a plain def of the class or of one above it -/
structure Meth (K : PySem.W.Frag) (C : Addr) (m : Str) (f : Addr) : Prop where
  at_ : PySem.W.findIn K (.ref C) m = some (some (.ref f))
  fn : PySem.W.isFn K (.ref f) = true
  kp : PySem.W.keepIn K (.ref f) = true

section
variable {X : Cx} {pins : List (Addr × Obj)} {σ : St} {H : Hp} {s : Shared} {a C dx : Addr} {fs : List (Str × V)} {f : Str} {v : V} {A : Around} {E : Value → Shared → Prop}

theorem getattr_ok {b : Bool} {Q : Value → Shared → Prop} (I : Inv X pins σ H s) (e : H a = some (.ins C dx fs)) (c : Cls X.K C) (n : NoAttr X.K C f) (l : fs.lookup f = some v)
    (h : ∀ u s', Inv X pins σ H s' → RelV v u → Q u s') : wpAny (model X.prog X.w) A (getAttr (.ref a) f b) Q E s := by
  obtain ⟨mA, O, r, _, _, _⟩ := ins_get I.hok e
  obtain ⟨u, hu, ru⟩ := RelO.some_of (v := v) (o := mA f) (by rw [← l]; exact r f)
  exact get_map I.kIn O (c.get f) c.hd n hu (handed_of ru) (h u _ (I.tok _) ru)

theorem getmeth_ok {m : Str} {g : Addr} {pl : Sem Bool} {Q : Value × List Value → Shared → Prop} (I : Inv X pins σ H s) (e : H a = some (.ins C dx fs)) (c : Cls X.K C) (k : Meth X.K C m g) (l : fs.lookup m = none)
    (h : Q (.ref g, [.ref a]) s) : wpAny (model X.prog X.w) A (getMethod (.ref a) m pl) Q E s := by
  obtain ⟨mA, O, r, _, _, _⟩ := ins_get I.hok e
  have hn : mA m = none := RelO.none_of (by rw [← l]; exact r m)
  exact get_meth I.kIn O (c.get m) k.at_ k.fn hn h

theorem setattr_ok {y : V} {u : Value} {Q : Unit → Shared → Prop} (I : Inv X pins σ H s) (e : H a = some (.ins C dx fs)) (c : Cls X.K C) (n : NoAttr X.K C f) (hl : fs.length < 1000) (ry : RelV y u)
    (h : ∀ s', Inv X pins σ (upd H a (.ins C dx (putF f y fs))) s' → Q () s') : wpAny (model X.prog X.w) A (setAttr (.ref a) f u) Q E s := by
  obtain ⟨mA, O, r, wi, _, ho⟩ := ins_get I.hok e
  have hz : (fs.map (·.1)).length ≤ sizeLine := by rw [List.length_map, sizeLine_eq]; omega
  refine set_map I.kIn O c.sa c.po n.taker c.hd wi hz fun h' O' sb => h _ ?_
  have hd : ∃ o, h'.get? dx = some o := let ⟨o, _, _, e', _⟩ := O'.ns; ⟨o, e'⟩
  refine I.write (x := a) (e := dx) (by rw [e]; exact True.intro) (.inr ho) (fun b q hb z => (sb.2 b hb).trans z) hd ?_
  refine ⟨by rw [upd_ne O.ne]; exact ho, ?_, O.ne, O'.obj, _, O'.ns, fun g => ?_, fun g hg => ?_⟩
  · have := length_putF f y fs; omega
  · show RelO ((putF f y fs).lookup g) (if g = f then some u else mA g)
    rw [lookup_putF]
    by_cases q : g = f
    · rw [if_pos q, if_pos q]; exact ry
    · rw [if_neg q, if_neg q]; exact r g
  · by_cases q : g = f
    · rw [q]; exact (keys_putF f y fs).1
    · refine (keys_putF f y fs).2 g (wi g fun z => hg ?_)
      show (if g = f then some u else mA g) = none
      rw [if_neg q]; exact z

/-- a new instance, tracked, without attributes -/
theorem Inv.made (I : Inv X pins σ H s) : Inv X pins σ (upd (upd H s.heap.objs.size (.own (s.heap.objs.size + 1))) (s.heap.objs.size + 1) (.ins C s.heap.objs.size []))
    { s with heap := (s.heap.push PySem.W.emptyDict).push (PySem.W.instObj C s.heap.objs.size) } := by
  have e1 : (s.heap.push PySem.W.emptyDict).get? s.heap.objs.size = some PySem.W.emptyDict := Heap.get?_push_size s.heap rfl
  have e2 : ((s.heap.push PySem.W.emptyDict).push (PySem.W.instObj C s.heap.objs.size)).get? (s.heap.objs.size + 1) = some (PySem.W.instObj C s.heap.objs.size) := by
    have := Heap.get?_push_size (s.heap.push PySem.W.emptyDict) (o := PySem.W.instObj C s.heap.objs.size) rfl
    rwa [Heap.size_push] at this
  have e3 : (s.heap.push PySem.W.emptyDict).Ns s.heap.objs.size (fun _ => none) := ⟨PySem.W.emptyDict, #[], _, e1, rfl, (fun e he => absurd he (by simp)), fun _ => rfl⟩
  have I1 := I.laid (a := s.heap.objs.size) (o := .own (s.heap.objs.size + 1)) (h' := s.heap.push PySem.W.emptyDict) (t' := s.toks) (fun b u q => Heap.get?_push_of_some _ q) (Nat.le_refl _) ⟨_, e1⟩
  refine I1.laid (a := s.heap.objs.size + 1) (o := .ins C s.heap.objs.size []) (t' := s.toks) (fun b u q => Heap.get?_push_of_some _ q) (Nat.le_of_eq (Heap.size_push _ _)) ?_
  have ne : s.heap.objs.size ≠ s.heap.objs.size + 1 := Nat.ne_of_lt (Nat.lt_succ_self _)
  refine ⟨by rw [upd_ne ne, upd_same], Nat.zero_le _, ne, e2, fun _ => none, (Heap.Ns1.of_empty e3).at fun o q => Heap.get?_push_of_some _ q, fun _ => True.intro, fun y hy => absurd rfl hy⟩

/-- e.f where nothing but the object is asked: through attributeBase (super) and the last hold -/
theorem attr_of {prog : Program} {w : World} {env : Env} {e : Expr} {f : Str} {pos : Pos} {s : Shared} {Q : Value → Shared → Prop} (hb : attributeBase e f env (eval e env) = eval e env)
    (h : wpAny (model prog w) A (eval e env) (fun o s₁ => wpAny (model prog w) A (getAttr o f true) Q E s₁) E s) : wpAny (model prog w) A (eval (.Attribute e f pos) env) Q E s :=
  Attribute_any_ h (by rw [arm_eval_Attribute, hb])
end

/-! ### readings and rules -/
/-- e.f, an attribute of the instance -/
noncomputable def tFld (K : PySem.W.Frag) (ta : TE) (f : Str) : TE := fun σ H Q => ta σ H fun x H1 => ∃ a C dx fs v, x = .ref a ∧ H1 a = some (.ins C dx fs) ∧ Cls K C ∧ NoAttr K C f ∧ fs.lookup f = some v ∧ Q v H1
/-- e.f = value -/
noncomputable def sFld (K : PySem.W.Frag) (ta tv : TE) (f : Str) : TS := fun D σ H => tv σ H fun y H1 => ta σ H1 fun x H2 => ∃ a C dx fs, x = .ref a ∧ H2 a = some (.ins C dx fs) ∧ Cls K C ∧ NoAttr K C f ∧ fs.length < 1000 ∧
  D.nx σ (upd H2 a (.ins C dx (putF f y fs)))
section
variable {X : Cx} {o e value : Expr} {f : Str} {pos pos' tpos : Pos} {ta tv : TE}
theorem pe_fld (he : PE X e ta) (hb : attributeBase e f X.env (eval e X.env) = eval e X.env) : PE X (.Attribute e f pos) (tFld X.K ta f) := by
  intro pins s σ H Q I h
  refine attr_of hb (thn (he pins s σ H _ I h) fun u s1 ⟨x, H1, I1, rx, a, C, dx, fs, v, ex, ea, c, n, l, q⟩ => ?_)
  subst ex
  obtain rfl : u = Value.ref a := rx
  exact getattr_ok I1 ea c n l fun u' s2 I2 ru => ⟨v, H1, I2, ru, q⟩
theorem ps_fld (ha : PE X o ta) (hv : PE X value tv) (hs : swapsWith value (some (.Attribute o f pos')) pos.line X.env = pure false) : PS X (.Assign [.Attribute o f pos'] value pos) (sFld X.K ta tv f) := by
  intro pins s σ H D I h
  refine plainObj_wpAny_Assign_Attribute (thn (hv pins s σ H _ I h) fun u s1 ⟨y, H1, I1, ry, q⟩ => thn (ha pins s1 σ H1 _ I1 q) fun ov s2 ⟨x, H2, I2, rx, a, C, dx, fs, ex, ea, c, n, l, q2⟩ => ?_) hs
  subst ex
  obtain rfl : ov = Value.ref a := rx
  exact setattr_ok I2 ea c n l ry fun s3 I3 => ⟨σ, _, I3, q2⟩
end

/-! ### isinstance -/
section
variable {X : Cx} {pins : List (Addr × Obj)} {σ : St} {H : Hp} {s : Shared} {A : Around} {E : Value → Shared → Prop} {Q : Value → Shared → Prop} {c : Value} {b : Bool}
end
end L2

namespace L2
open PySem PySem.Spec PyProof.Rows

/-! ### room -/
structure Room (k : Nat) (A : Around) : Prop where
  hd : A.handled = none
  dp : A.depth + 3 * k + 5 < recursionLimit
  un : A.units + 16 * k + 200 < cLine
theorem Room.mono {j k : Nat} {A : Around} (r : Room k A) (h : j ≤ k) : Room j A := ⟨r.hd, by have := r.dp; omega, by have := r.un; omega⟩
theorem Room.deeper {k : Nat} {A : Around} (r : Room (k + 1) A) (env : Env) : Room k (A.deeper env) :=
  ⟨r.hd, by have := r.dp; show A.depth + 1 + 3 * k + 5 < _; omega, by have := r.un; show A.units + 3 + 16 * k + 200 < _; omega⟩
theorem make_depth {A : Around} {C : Addr} {us : List Value} {kw : List (Str × Value)} : (A.under (.builtin "type.__call__" ⟨.ref C :: us, kw⟩)).depth = A.depth + 1 := by
  first | rfl | simp [Around.under, Code.weight, Code.isCreation, Code.isGuard, Code.isCaller, Code.frames, Code.isFrame, guardIds]
theorem make_units {A : Around} {C : Addr} {us : List Value} {kw : List (Str × Value)} : (A.under (.builtin "type.__call__" ⟨.ref C :: us, kw⟩)).units = A.units + 1 := by
  first | rfl | simp [Around.under, Code.cUnits, Code.frames, Code.isFrame]
theorem Room.make {k : Nat} {A : Around} (r : Room (k + 1) A) (C : Addr) (us : List Value) (kw : List (Str × Value)) : Room k (A.under (.builtin "type.__call__" ⟨.ref C :: us, kw⟩)) :=
  ⟨r.hd, by have := r.dp; rw [make_depth]; omega, by have := r.un; rw [make_units]; omega⟩
theorem Room.depth {k : Nat} {A : Around} (r : Room k A) : A.depth < recursionLimit := by have := r.dp; omega
theorem Room.units {k : Nat} {A : Around} (r : Room k A) : A.units + 64 < cLine := by have := r.un; omega
/-! ### argument lists and displays -/
@[reducible] noncomputable def tNil : TA := fun _ H Q => Q [] H
@[reducible] noncomputable def tCons (ta : TE) (tr : TA) : TA := fun σ H Q => ta σ H fun x H1 => tr σ H1 fun xs H2 => Q (x :: xs) H2
section
variable {X : Cx} {e : Expr} {es : List Expr} {te : TE} {t : TA} {pos : Pos}
theorem pa_nil : PA X [] tNil := fun _ _ _ _ H Q I h => Calls.spliced_nil ⟨[], H, I, .nil, h⟩
theorem pa_cons (ha : PE X e te) (hr : PA X es t) (hs : starEach (e :: es) X.env = (false, eval e X.env) :: starEach es X.env := by rfl) : PA X (e :: es) (tCons te t) := by
  intro pos pins s σ H Q I h
  rw [hs]
  show wpAny _ _ (spliced ((false, eval e X.env) :: backTo pos (starEach es X.env))) _ _ s
  refine Calls.spliced_cons (thn (ha pins s σ H _ I h) fun u s1 ⟨x, H1, I1, r1, q1⟩ => ?_)
  exact thn (hr pos pins s1 σ H1 _ I1 q1) fun us s2 ⟨xs, H2, I2, r2, q2⟩ => ⟨x :: xs, H2, I2, .cons r1 r2, q2⟩

/-- a tuple, a list of written items -/
@[reducible] noncomputable def tTup (t : TA) : TE := fun σ H Q => t σ H fun xs H1 => xs.length ≤ sizeLine ∧ ∀ p, H1 p = none → Q (.ref p) (upd H1 p (.tup xs))
@[reducible] noncomputable def tLst (t : TA) : TE := fun σ H Q => t σ H fun xs H1 => xs.length ≤ sizeLine ∧ ∀ p, H1 p = none → Q (.ref p) (upd H1 p (.lst xs))
theorem pe_tup {x1} (h : PA X es t) : PE X (.Tuple es x1 pos) (tTup t) := by
  intro pins s σ H Q I hq
  refine wpAny_Tuple_spliced (thn (h pos pins s σ H _ I hq) fun us s1 ⟨xs, H1, I1, r, z, q⟩ => ⟨by rw [← r.length]; exact z, ?_⟩)
  have hf : H1 s1.heap.objs.size = none := I1.hok.fresh (Nat.le_refl _)
  refine ⟨.ref s1.heap.objs.size, upd H1 s1.heap.objs.size (.tup xs), I1.laid (t' := s1.toks) (fun b u e => Heap.get?_push_of_some _ e) (Nat.le_refl _) ?_, rfl, q _ hf⟩
  exact ⟨z, us, r, ⟨_, Heap.get?_push_size _ rfl, rfl, _, rfl⟩⟩
theorem pe_lst (h : PA X es t) : PE X (.List es pos) (tLst t) := by
  intro pins s σ H Q I hq
  refine wpAny_List_spliced (thn (h pos pins s σ H _ I hq) fun us s1 ⟨xs, H1, I1, r, z, q⟩ => ⟨by rw [← r.length]; exact z, ?_⟩)
  have hf : H1 s1.heap.objs.size = none := I1.hok.fresh (Nat.le_refl _)
  refine ⟨.ref s1.heap.objs.size, upd H1 s1.heap.objs.size (.lst xs), I1.laid (t' := s1.toks) (fun b u e => Heap.get?_push_of_some _ e) (Nat.le_refl _) ?_, rfl, q _ hf⟩
  exact ⟨z, us, 0, r, Heap.get?_push_size _ rfl⟩
end

/-! ### what a def promises -/
/-- a def's promise: the bound arguments in the parameters' order, the heap, the wanted end, the wanted exception -/
noncomputable abbrev Sp := List V → Hp → VK → XK → Prop
/-- how an exception lies behind a call (file 08 gives it): the callers' frames, abstract heap and state ahead of the call, the wish, the exception, the state -/
noncomputable abbrev CXT := List Env → Hp → Shared → XK → Value → Shared → Prop

/-- the state at a call -/
structure Env0 (P : Program) (w : World) (K : PySem.W.Frag) (mg : Str → Option Value) (base : Heap) (A : Around) (outer : List Env) (s : Shared) (H : Hp) : Prop where
  frames : A.frames = some outer
  mod : Mod K mg base
  bs : ∀ b o, base.get? b = some o → s.heap.get? b = some o ∧ H b = none
  bsz : base.objs.size ≤ s.heap.objs.size
  funs : s.heap.FunFrames base outer
  frf : ∀ b ∈ frs outer, H b = none
  hok : HOk P w H s.heap
  bare : AllBare s.gens
/-- a call's end -/
noncomputable def CE (outer : List Env) (P : Program) (w : World) (H : Hp) (s : Shared) (Q : VK) (u : Value) (s' : Shared) : Prop :=
  ∃ v H', s'.os = s.os ∧ AllBare s'.gens ∧ Un (frs outer) [] H H' s.heap s'.heap ∧ HOk P w H' s'.heap ∧ RelV v u ∧ Q v H'
noncomputable def CR (CX : CXT) (outer : List Env) (P : Program) (w : World) (H : Hp) (s : Shared) (Q : VK) (E : XK) (r : Result) (s' : Shared) : Prop :=
  match r with
  | .ok (.ret u) => CE outer P w H s Q u s'
  | .ok _ => False
  | .error e => CX outer H s E e s'
structure FnOk (P : Program) (w : World) (K : PySem.W.Frag) (mg : Str → Option Value) (base : Heap) (CX : CXT) (k : Nat) (f : Addr) (fd : FuncData) (ps : List Str) (sp : Sp) : Prop where
  len : ∀ vs H Q E, sp vs H Q E → vs.length = ps.length
  run : ∀ (A : Around) (outer : List Env) (s : Shared) (H : Hp) (args : Args) (us : List Value) (vs : List V) (Q : VK) (E : XK), Room k A → Env0 P w K mg base A outer s H → BindsTo s fd args (ps.zip us) → Vals vs us → sp vs H Q E →
    codeAny (model P w) A (.call (.ref f) args) (CR CX outer P w H s Q E) s
theorem Env0.make {P : Program} {w : World} {K : PySem.W.Frag} {mg : Str → Option Value} {base : Heap} {A : Around} {outer : List Env} {s : Shared} {H : Hp} (e : Env0 P w K mg base A outer s H) (C : Addr) (us : List Value) (kw : List (Str × Value)) :
    Env0 P w K mg base (A.under (.builtin "type.__call__" ⟨.ref C :: us, kw⟩)) outer s H := ⟨by first | exact e.frames | (simpa [Around.under, Code.envs, Code.isFrame, pushEnvs] using e.frames), e.mod, e.bs, e.bsz, e.funs, e.frf, e.hok, e.bare⟩
section
variable {X : Cx} {pins : List (Addr × Obj)} {σ : St} {H : Hp} {s s' : Shared}
/-- from a body: what a callee wants -/
theorem Inv.env0 (I : Inv X pins σ H s) : Env0 X.prog X.w X.K X.mg X.base X.A X.stack s H :=
  ⟨I.ok.frames, I.ok.mod, I.bs, Nat.le_trans I.ok.bsz I.sz, I.stack, I.stkFree, I.hok, I.bare⟩
/-- behind a call -/
theorem Inv.after {Q : VK} {u : Value} (I : Inv X pins σ H s) (h : CE X.stack X.prog X.w H s Q u s') : EP X pins σ Q u s' := by
  obtain ⟨v, H', os, bare, un, hok, r, q⟩ := h
  obtain ⟨hh, g, d, t, os'⟩ := s'
  obtain rfl : os' = s.os := os
  exact ⟨v, H', I.call (h' := hh) (g' := g) (d' := d) (t' := t) (ch := []) un hok bare (fun b z => absurd z (by simp)), r, q⟩
end

/-! ### calls -/
/-- f(..): the written arguments, then the defaults dvs; E: what is wanted of an exception -/
@[reducible] noncomputable def tCall (sp : Sp) (dvs : List V) (E : XK) (t : TA) : TE := fun σ H Q => t σ H fun vs H1 => sp (vs ++ dvs) H1 Q E
/-- o.m(..) of an instance of the class at C -/
noncomputable def tMeth (C : Addr) (m : Str) (sp : Sp) (dvs : List V) (E : XK) (ta : TE) (t : TA) : TE := fun σ H Q => ta σ H fun x H1 => ∃ a dx fs, x = .ref a ∧ H1 a = some (.ins C dx fs) ∧ fs.lookup m = none ∧
  t σ H1 fun vs H2 => sp (x :: (vs ++ dvs)) H2 Q E
/-- C(..): a new instance and its dict, then __init__ -/
noncomputable def tMake (C : Addr) (sp : Sp) (dvs : List V) (E : XK) (t : TA) : TE := fun σ H Q => t σ H fun vs H1 => ∀ x dx, H1 x = none → H1 dx = none → dx ≠ x →
  sp (.ref x :: (vs ++ dvs)) (upd (upd H1 dx (.own x)) x (.ins C dx [])) (fun v H2 => v = .non ∧ Q (.ref x) H2) E

/-- how the parameters are bound: us the positional arguments, kw the keywords' values by name, ds the defaults that fill up -/
noncomputable def Binds (K : PySem.W.Frag) (fd : FuncData) (ps : List Str) (ds : List Value) : Prop :=
  ∀ (s : Shared) (us : List Value), K.In s.heap → (us ++ ds).length = ps.length → BindsTo s fd ⟨us, []⟩ (ps.zip (us ++ ds))
/-- every parameter is given -/
theorem Binds.all {K : PySem.W.Frag} {fd : FuncData} {ps : List Str} (h : ∀ us : List Value, us.length = ps.length → bindArgs fd ⟨us, []⟩ = pure (ps.zip us)) : Binds K fd ps [] := fun s us _ hl => by
  rw [List.append_nil] at hl ⊢
  exact .of_eq (h us hl)

/-- an exception of a callee reaches what this body wants of exceptions -/
noncomputable def Passes (CX : CXT) (X : Cx) (E : XK) : Prop := ∀ (pins : List (Addr × Obj)) (σ : St) (H : Hp) (s : Shared) (e : Value) (s' : Shared), Inv X pins σ H s → CX X.stack H s E e s' → X.xe e s'

section
variable {X : Cx} {CX : CXT} {k : Nat} {f C : Addr} {fd : FuncData} {ps : List Str} {sp : Sp} {dvs : List V} {ds : List Value} {E : XK} {x m : Str} {p pos apos : Pos} {e o : Expr} {es : List Expr} {ta : TE} {t : TA}

/-- the callee runs -/
theorem run_fn {pins : List (Addr × Obj)} {σ : St} {H : Hp} {s : Shared} {Q : VK} {us : List Value} {vs : List V} (F : FnOk X.prog X.w X.K X.mg X.base CX k f fd ps sp) (hr : Room k X.A) (hb : Binds X.K fd ps ds) (hd : Vals dvs ds) (hx : Passes CX X E)
    (I : Inv X pins σ H s) (r : Vals vs us) (h : sp (vs ++ dvs) H Q E) : wpAny (model X.prog X.w) X.A (call (.ref f) us) (EP X pins σ Q) X.xe s := by
  have r2 : Vals (vs ++ dvs) (us ++ ds) := r.append hd
  have hl : (us ++ ds).length = ps.length := by rw [← r2.length]; exact F.len _ _ _ _ h
  refine wpAny_call (codeAny_mono (F.run X.A X.stack s H ⟨us, []⟩ (us ++ ds) (vs ++ dvs) Q E hr I.env0 (hb s us I.kIn hl) r2 h) fun r s' hq => ?_)
  cases r with
  | error e => exact hx pins σ H s e s' I hq
  | ok fl =>
    cases fl with
    | ret u => exact I.after hq
    | next => exact False.elim hq
    | brk => exact False.elim hq
    | cont => exact False.elim hq

theorem pe_call (F : FnOk X.prog X.w X.K X.mg X.base CX k f fd ps sp) (hr : Room k X.A) (hg : Gl X x) (hm : X.mg x = some (.ref f)) (hk : PySem.W.keepIn X.K (.ref f) = true) (hb : Binds X.K fd ps ds) (hd : Vals dvs ds) (hx : Passes CX X E)
    (ha : PA X (e :: es) t) (hdb : (x == ("__debug__" : Str)) = false := by decide) (he : starEach (e :: es) X.env = (false, eval e X.env) :: starEach es X.env := by rfl) (hpl : (backTo pos (starEach es X.env)).any (·.1) = false := by rfl) :
    PE X (.Call (.Name x p) (e :: es) [] pos) (tCall sp dvs E t) := by
  intro pins s σ H Q I h
  refine wpAny_Call_Name_kw (ld_glob I hg hm ?_ hdb)
  refine PySem.W.callWith_K (h₀ := X.base) I.ok.mod.kin hk (thn (ha pos pins s σ H _ I h) fun us s1 ⟨vs, H1, I1, r, q⟩ => ⟨I1.kIn, ?_⟩) he hpl
  exact run_fn F hr hb hd hx I1 r q
/-- o.m(e, ..) -/
theorem pe_meth {pl : Sem Bool} (he : PE X o ta) (c : Cls X.K C) (hm : Meth X.K C m f) (F : FnOk X.prog X.w X.K X.mg X.base CX k f fd ps sp) (hr : Room k X.A) (hb : Binds X.K fd ps ds) (hd : Vals dvs ds) (hx : Passes CX X E) (ha : PA X (e :: es) t)
    (hst : starEach (e :: es) X.env = (false, eval e X.env) :: starEach es X.env := by rfl) (hpl : (backTo pos (starEach es X.env)).any (·.1) = false := by rfl)
    (ht : eval (.Call (.Attribute o m apos) (e :: es) [] pos) X.env = (do
      let ov ← eval o X.env
      standAt apos.atName
      let (f, first) ← holding [ov] (getMethod ov m pl)
      callWith pos f first (backTo pos (starEach (e :: es) X.env)) (backToKw pos (keywordEach [] X.env))) := by rfl) :
    PE X (.Call (.Attribute o m apos) (e :: es) [] pos) (tMeth C m sp dvs E ta t) := by
  intro pins s σ H Q I h
  refine PySem.W.methodCall_KW (pl := pl) (thn (he pins s σ H _ I h) fun u s1 ⟨x, H1, I1, rx, a, dx, fs, ex, ea, l, q⟩ => ?_) ht
  subst ex
  obtain rfl : u = Value.ref a := rx
  refine getmeth_ok I1 ea c hm l ?_
  refine PySem.W.callWith_K (first := [.ref a]) (h₀ := X.base) I.ok.mod.kin hm.kp (thn (ha pos pins s1 σ H1 _ I1 q) fun us s2 ⟨vs, H2, I2, r, q2⟩ => ⟨I2.kIn, ?_⟩) hst hpl
  exact run_fn (us := .ref a :: us) (vs := .ref a :: vs) F hr hb hd hx I2 (.cons rfl r) q2
/-- o.m() -/
theorem pe_meth0 {pl : Sem Bool} (he : PE X o ta) (c : Cls X.K C) (hm : Meth X.K C m f) (F : FnOk X.prog X.w X.K X.mg X.base CX k f fd ps sp) (hr : Room k X.A) (hb : Binds X.K fd ps ds) (hd : Vals dvs ds) (hx : Passes CX X E)
    (ht : eval (.Call (.Attribute o m apos) [] [] pos) X.env = (do
      let ov ← eval o X.env
      standAt apos.atName
      let (f, first) ← holding [ov] (getMethod ov m pl)
      callWith pos f first (backTo pos (starEach [] X.env)) (backToKw pos (keywordEach [] X.env))) := by rfl) :
    PE X (.Call (.Attribute o m apos) [] [] pos) (tMeth C m sp dvs E ta tNil) := by
  intro pins s σ H Q I h
  refine PySem.W.methodCall_KW (pl := pl) (thn (he pins s σ H _ I h) fun u s1 ⟨x, H1, I1, rx, a, dx, fs, ex, ea, l, q⟩ => ?_) ht
  subst ex
  obtain rfl : u = Value.ref a := rx
  refine getmeth_ok I1 ea c hm l ?_
  exact PySem.W.callWith_K0 (first := [.ref a]) I1.kIn hm.kp (run_fn (us := [.ref a]) (vs := [.ref a]) F hr hb hd hx I1 (.cons rfl .nil) q)

/-- what a class must have to be made -/
structure Mk (K : PySem.W.Frag) (C f : Addr) : Prop where
  makes : PySem.W.makesIn K C = true
  init : PySem.W.findIn K (.ref C) "__init__" = some (some (.ref f))
  fn : PySem.W.isFn K (.ref f) = true
  kp : PySem.W.keepIn K (.ref C) = true

theorem run_make {pins : List (Addr × Obj)} {σ : St} {H : Hp} {s : Shared} {Q : VK} {us : List Value} {vs : List V} (M : Mk X.K C f) (F : FnOk X.prog X.w X.K X.mg X.base CX k f fd ps sp) (hr : Room (k + 1) X.A) (hb : Binds X.K fd ps ds) (hd : Vals dvs ds)
    (hx : Passes CX X E) (I : Inv X pins σ H s) (r : Vals vs us)
    (h : ∀ x dx, H x = none → H dx = none → dx ≠ x → sp (.ref x :: (vs ++ dvs)) (upd (upd H dx (.own x)) x (.ins C dx [])) (fun v H2 => v = .non ∧ Q (.ref x) H2) E) :
    wpAny (model X.prog X.w) X.A (call (.ref C) us) (EP X pins σ Q) X.xe s := by
  have hq := h (s.heap.objs.size + 1) s.heap.objs.size (I.hok.fresh (Nat.le_succ _)) (I.hok.fresh (Nat.le_refl _)) (Nat.ne_of_lt (Nat.lt_succ_self _))
  have I2 := Inv.made (C := C) I
  have r2 : Vals (V.ref (s.heap.objs.size + 1) :: (vs ++ dvs)) (Value.ref (s.heap.objs.size + 1) :: (us ++ ds)) := .cons rfl (r.append hd)
  have hl : (Value.ref (s.heap.objs.size + 1) :: us ++ ds).length = ps.length := by
    have e := r2.length
    rw [F.len _ _ _ _ hq] at e
    exact e.symm
  refine wpAny_call (make_map (f := f) I.kIn M.makes M.init (beq_iff_eq.mp M.fn) (codeAny_mono (F.run _ X.stack _ _ ⟨Value.ref (s.heap.objs.size + 1) :: us, []⟩ (Value.ref (s.heap.objs.size + 1) :: (us ++ ds)) _ _ E (hr.make C us [])
    (I2.env0.make C us []) (hb _ (Value.ref (s.heap.objs.size + 1) :: us) I2.kIn hl) r2 hq) fun r s' hq' => ?_))
  cases r with
  | error e => exact hx pins σ _ _ e s' I2 hq'
  | ok fl =>
    cases fl with
    | ret u =>
      obtain ⟨v, H', I3, rv, ev, q3⟩ := I2.after hq'
      subst ev
      exact ⟨rv, ⟨V.ref (s.heap.objs.size + 1), H', I3, rfl, q3⟩⟩
    | next => exact False.elim hq'
    | brk => exact False.elim hq'
    | cont => exact False.elim hq'
theorem pe_make (M : Mk X.K C f) (F : FnOk X.prog X.w X.K X.mg X.base CX k f fd ps sp) (hr : Room (k + 1) X.A) (hg : Gl X x) (hm : X.mg x = some (.ref C)) (hb : Binds X.K fd ps ds) (hd : Vals dvs ds) (hx : Passes CX X E)
    (ha : PA X (e :: es) t) (hdb : (x == ("__debug__" : Str)) = false := by decide) (he : starEach (e :: es) X.env = (false, eval e X.env) :: starEach es X.env := by rfl) (hpl : (backTo pos (starEach es X.env)).any (·.1) = false := by rfl) :
    PE X (.Call (.Name x p) (e :: es) [] pos) (tMake C sp dvs E t) := by
  intro pins s σ H Q I h
  refine wpAny_Call_Name_kw (ld_glob I hg hm ?_ hdb)
  refine PySem.W.callWith_K (h₀ := X.base) I.ok.mod.kin M.kp (thn (ha pos pins s σ H _ I h) fun us s1 ⟨vs, H1, I1, r, q⟩ => ⟨I1.kIn, ?_⟩) he hpl
  exact run_make M F hr hb hd hx I1 r q
theorem pe_make0 (M : Mk X.K C f) (F : FnOk X.prog X.w X.K X.mg X.base CX k f fd ps sp) (hr : Room (k + 1) X.A) (hg : Gl X x) (hm : X.mg x = some (.ref C)) (hb : Binds X.K fd ps ds) (hd : Vals dvs ds) (hx : Passes CX X E)
    (hdb : (x == ("__debug__" : Str)) = false := by decide) : PE X (.Call (.Name x p) [] [] pos) (tMake C sp dvs E tNil) := by
  intro pins s σ H Q I h
  refine wpAny_Call_Name_kw (ld_glob I hg hm ?_ hdb)
  exact PySem.W.callWith_K0 I.kIn M.kp (run_make (us := []) M F hr hb hd hx I .nil h)
end

/-! ### keywords -/
section
variable {X : Cx} {CX : CXT} {k : Nat} {f C : Addr} {fd : FuncData} {ps ks : List Str} {sp : Sp} {E : XK} {x m : Str} {p pos apos kpos : Pos} {e o : Expr} {es : List Expr} {kws : List Keyword} {te ta : TE} {t tk : TA} {nm : Option Str}
variable {g : List Value → List Value → List Value} {gV : List V → List V → List V}
end

/-! ### a def's body keeps its promise -/
/-- names: the parameters first -/
structure FnScope (N P : List Str) (sc : Scope) : Prop where
  kind : sc.kind = .function
  co : sc.isCoroutine = false
  gen : sc.isGenerator = false
  nd : N.Nodup
  pre : N.take P.length = P
  par : ∀ x ∈ P, sc.names.lookup x = some .local ∨ sc.names.lookup x = some .cell
  nofree : ∀ y ∈ sc.names, y.2 ≠ .free

theorem bindL_out {kindOf : Str → Option NameKind} {x : Str} : ∀ {binds : List (Str × Value)} {m : Str → Option Value}, (∀ v, (x, v) ∉ binds) → bindL kindOf binds m x = m x
  | [], _, _ => rfl
  | (n, v) :: r, m, h => by
    unfold bindL
    rw [bindL_out fun w hw => h w (List.mem_cons_of_mem _ hw)]
    split
    · have : x ≠ n := by rintro rfl; exact h v List.mem_cons_self
      simp [this]
    · rfl
theorem bindC_out {kindOf : Str → Option NameKind} {x : Str} : ∀ {binds : List (Str × Value)} {m : Str → Option Value}, (∀ v, (x, v) ∉ binds) → bindC kindOf binds m x = m x
  | [], _, _ => rfl
  | (n, v) :: r, m, h => by
    unfold bindC
    rw [bindC_out fun w hw => h w (List.mem_cons_of_mem _ hw)]
    split
    · rfl
    · have : x ≠ n := by rintro rfl; exact h v List.mem_cons_self
      simp [this]
theorem bindL_get {kindOf : Str → Option NameKind} {x : Str} {v : Value} : ∀ {P : List Str} {vs : List Value} {i : Nat} {m : Str → Option Value}, P.Nodup → P[i]? = some x → vs[i]? = some v → kindOf x = some .local →
    bindL kindOf (P.zip vs) m x = some v
  | [], _, _, _, _, h, _, _ => by simp at h
  | _ :: _, [], _, _, _, _, h, _ => by simp at h
  | p :: P, w :: vs, 0, m, nd, h1, h2, hk => by
    simp at h1 h2; subst h1; subst h2
    show bindL kindOf ((p, w) :: P.zip vs) m p = _
    unfold bindL
    rw [bindL_out fun v hv => (List.nodup_cons.mp nd).1 (List.of_mem_zip hv).1, if_pos hk]
    simp
  | p :: P, w :: vs, i + 1, m, nd, h1, h2, hk => by
    show bindL kindOf ((p, w) :: P.zip vs) m x = _
    unfold bindL
    exact bindL_get (i := i) (List.nodup_cons.mp nd).2 (by simpa using h1) (by simpa using h2) hk
theorem bindC_get {kindOf : Str → Option NameKind} {x : Str} {v : Value} : ∀ {P : List Str} {vs : List Value} {i : Nat} {m : Str → Option Value}, P.Nodup → P[i]? = some x → vs[i]? = some v → kindOf x ≠ some .local →
    bindC kindOf (P.zip vs) m x = some v
  | [], _, _, _, _, h, _, _ => by simp at h
  | _ :: _, [], _, _, _, _, h, _ => by simp at h
  | p :: P, w :: vs, 0, m, nd, h1, h2, hk => by
    simp at h1 h2; subst h1; subst h2
    show bindC kindOf ((p, w) :: P.zip vs) m p = _
    unfold bindC
    rw [bindC_out fun v hv => (List.nodup_cons.mp nd).1 (List.of_mem_zip hv).1, if_neg hk]
    simp
  | p :: P, w :: vs, i + 1, m, nd, h1, h2, hk => by
    show bindC kindOf ((p, w) :: P.zip vs) m x = _
    unfold bindC
    exact bindC_get (i := i) (List.nodup_cons.mp nd).2 (by simpa using h1) (by simpa using h2) hk

/-- the names' values at the entry -/
noncomputable def start (N : List Str) (vs : List V) : St := vs.map some ++ List.replicate (N.length - vs.length) none

/-- the context of a def's body, at its entry; an exception leaves the frame, then lies as CX says -/
noncomputable def cxOf (CX : CXT) (P : Program) (w : World) (K : PySem.W.Frag) (mg : Str → Option Value) (base : Heap) (N : List Str) (qual : Str) (scope : Scope) (f : Addr) (cd : Value) (A : Around) (outer : List Env) (s : Shared) (H : Hp) (E : XK) : Cx where
  prog := P
  w := w
  K := K
  mg := mg
  base := base
  A := A.deeper (envOfC qual scope s.heap.objs.size f cd)
  N := N
  s_0 := s
  H_0 := H
  env := envOfC qual scope s.heap.objs.size f cd
  outer := outer
  stack := envOfC qual scope s.heap.objs.size f cd :: outer
  ex := []
  calm := true
  fn := fun _ => true
  pn := []
  xe := fun e s' => wpAny (model P w) (A.deeper (envOfC qual scope s.heap.objs.size f cd)) (leaving (envOfC qual scope s.heap.objs.size f cd) e) (fun _ s'' => CX outer H s E e s'') (fun e' s'' => CX outer H s E e' s'') s'

theorem cell_has {sc : Scope} {n : Nat} {x : Str} (h : sc.names.lookup x = some .cell) : ∃ c, (cellsFrom n sc.names []).lookup x = some c := by
  have q := PySem.W.cellsFrom_some sc.names n [] (.inl h)
  exact Option.isSome_iff_exists.mp q

theorem inv_start {CX : CXT} {P : Program} {w : World} {K : PySem.W.Frag} {mg : Str → Option Value} {base : Heap} {N ps : List Str} {qual : Str} {scope : Scope} {f : Addr} {cd : Value} {A : Around} {outer : List Env} {s s1 : Shared} {H : Hp} {E : XK} {us : List Value} {vs : List V}
    (S : FnScope N ps scope) (hd : A.handled = none) (e0 : Env0 P w K mg base A outer s H) (hl : vs.length = ps.length) (r : Vals vs us)
    (x : InCallC s s.heap.objs.size (bindL (envOfC qual scope s.heap.objs.size f cd).kindOf (ps.zip us) fun _ => none) (cellsFrom (s.heap.objs.size + 1) scope.names []) (bindC (envOfC qual scope s.heap.objs.size f cd).kindOf (ps.zip us) fun _ => none) s1) :
    Inv (cxOf CX P w K mg base N qual scope f cd A outer s H E) [] (start N vs) H s1 := by
  have hpl : ps.length ≤ N.length := by have := congrArg List.length S.pre; rw [List.length_take] at this; omega
  obtain ⟨h1, tk, rfl, hk⟩ := x.done
  have noA : ∀ b : Addr, b ∉ (cxOf CX P w K mg base N qual scope f cd A outer s H E).ex := fun b z => absurd (show b ∈ ([] : List Addr) from z) (by simp)
  refine ⟨⟨e0.mod, S.kind, rfl, rfl, Nat.le_refl _, fun y z c h1 h2 => ?_, fun y hy => ?_, fun y c _ h => ?_, fun _ => hd, Around.frames_deeper e0.frames, .inr ⟨rfl, rfl⟩, fun b z => absurd z (noA b), e0.bs, e0.bsz, fun b _ _ => noA b, fun b z => absurd z (noA b), e0.funs, e0.frf⟩,
    rfl, e0.bare, Un.kept hk, ⟨_, x.toInCall.ns, fun i y v h1 h2 h3 => ?_⟩, fun y c h => ⟨_, x.cell y c h⟩, e0.hok.fresh (Nat.le_refl _), fun y c h => ?_, fun p hp => absurd (show p ∈ ([] : List (Addr × Obj)) from hp) (by simp), e0.hok.kept hk, ?_⟩
  · exact name_of_addr x.apart (PySem.mem_of_lookup h1) (PySem.mem_of_lookup h2)
  · have hy : scope.names.lookup y = some .cell ∨ scope.names.lookup y = some .free := hy
    rcases hy with hy | hy
    · exact cell_has hy
    · exact absurd rfl (S.nofree _ (PySem.mem_of_lookup hy))
  · exact Nat.le_of_lt (x.above y c (PySem.mem_of_lookup h))
  · have hi : i < vs.length := by
      unfold start at h2
      by_cases hi : i < vs.length
      · exact hi
      · rw [List.getElem?_append_right (by simpa using hi)] at h2
        rw [List.getElem?_replicate] at h2
        split at h2 <;> cases h2
    have ha : vs[i]? = some v := by
      unfold start at h2
      rw [List.getElem?_append_left (by simpa using hi), List.getElem?_map] at h2
      cases e : vs[i]? with
      | none => rw [e] at h2; cases h2
      | some a => rw [e] at h2; cases h2; rfl
    obtain ⟨u, hu, rv⟩ := r.get ha
    have hp : ps[i]? = some y := by
      rw [← S.pre, List.getElem?_take_of_lt (by omega)]; exact h1
    have ndP : ps.Nodup := by rw [← S.pre]; exact S.nd.sublist (List.take_sublist _ _)
    refine ⟨u, rv, ?_⟩
    rcases S.par y (List.mem_of_getElem? hp) with k | k
    · exact .inl ⟨k, bindL_get ndP hp hu k⟩
    · obtain ⟨c, e⟩ := cell_has (n := s.heap.objs.size + 1) k
      refine .inr ⟨.inl k, c, e, ?_⟩
      have q := x.cell y c e
      rw [bindC_get ndP hp hu (by show scope.names.lookup y ≠ _; rw [k]; decide)] at q
      exact q
  · exact e0.hok.fresh (Nat.le_of_lt (x.above y c (PySem.mem_of_lookup h)))
  · unfold start
    show _ = N.length
    rw [List.length_append, List.length_map, List.length_replicate]
    omega

/-- THE RULE: a def (or a method) of the text, by its body. The body's reading t is chosen for each entry; it is run at the parameters' values -/
theorem fn_of {CX : CXT} {P : Program} {w : World} {K : PySem.W.Frag} {mg : Str → Option Value} {base : Heap} {k : Nat} {f : Addr} {name qual : Str} {params : Arguments} {body : List Stmt} {scope : Scope} {dV kV doc pm cdv ct oc : Value} {an od : Option Addr}
    {osl : Array (Option Value)} {N ps : List Str} {sp : Sp} (lk : K.lookup f = some ⟨oc, od, .func (PySem.W.fnOf name qual params body scope dV kV doc pm an cdv ct), osl⟩) (hcd : PySem.W.codeIn K cdv qual = true) (S : FnScope N ps scope)
    (len : ∀ vs H Q E, sp vs H Q E → vs.length = ps.length)
    (hbody : ∀ (A : Around) (outer : List Env) (s : Shared) (H : Hp) (vs : List V) (Q : VK) (E : XK), Room k (A.deeper (envOfC qual scope s.heap.objs.size f cdv)) → sp vs H Q E →
      ∃ t, PSs (cxOf CX P w K mg base N qual scope f cdv A outer s H E) body t ∧ t { nx := fun _ H' => Q .non H', rt := Q } (start N vs) H) :
    FnOk P w K mg base CX (k + 1) f (PySem.W.fnOf name qual params body scope dV kV doc pm an cdv ct) ps sp := by
  refine ⟨len, fun A outer s H args us vs Q E hr e0 hb r hsp => ?_⟩
  have hl := len _ _ _ _ hsp
  have KX : K.In s.heap := e0.mod.kin.keeps fun b o e => (e0.bs b o e).1
  have lim : s.heap.NoLimit := e0.mod.nolimit.keeps fun b o e => (e0.bs b o e).1
  have hkind : ∀ y ∈ ps.zip us, scope.names.lookup y.1 = some .local ∨ (scope.names.lookup y.1 = some .cell ∧ ((cellsFrom (s.heap.objs.size + 1) scope.names []).lookup y.1).isSome = true) := fun ⟨n, v⟩ hy => by
    rcases S.par n (List.of_mem_zip hy).1 with q | q
    · exact .inl q
    · exact .inr ⟨q, PySem.W.cellsFrom_some _ _ _ (.inl q)⟩
  refine codeAny_call_function hr.depth (KX _ _ lk) rfl S.co S.gen rfl (PySem.W.codeRec_of KX hcd) (hb _ _ _ _ ?_)
  refine wpAny_newFunctionEnv_cells S.kind hkind fun env he s1 x => ?_
  subst he
  refine ⟨lim.keeps x.toInCall.keep, codeAny_func ?_⟩
  obtain ⟨t, ht, hq⟩ := hbody A outer s H vs Q E (hr.deeper _) hsp
  have I : Inv (cxOf CX P w K mg base N qual scope f cdv A outer s H E) [] (start N vs) H s1 := inv_start S hr.hd e0 hl r x
  refine wpAny_mono (ht [] s1 (start N vs) H _ I hq) (fun fl s' hs => ?_) fun e s' hs => hs
  have fin : ∀ {σ' : St} {H' : Hp} {v : V} {u : Value}, Inv (cxOf CX P w K mg base N qual scope f cdv A outer s H E) [] σ' H' s' → RelV v u → Q v H' → CE outer P w H s Q u s' :=
    fun {σ' H' v u} J rv q => ⟨v, H', J.os, J.bare, J.base, J.hok, rv, q⟩
  cases fl with
  | ret u =>
    obtain ⟨v, σ', H', J, rv, q⟩ := hs
    exact fin J rv q
  | next =>
    obtain ⟨σ', H', J, q⟩ := hs
    exact fin (v := V.non) (u := Value.none) J rfl q
  | brk =>
    obtain ⟨_, _, _, q⟩ := hs
    exact False.elim q
  | cont =>
    obtain ⟨_, _, _, q⟩ := hs
    exact False.elim q
end L2

namespace L2
open PySem PySem.Spec PyProof.Rows
section
variable {X : Cx} {x : Str} {p pos : Pos} {e : Expr} {es : List Expr} {t : TA} {id T : String} {r : List V → Hp → VK → Prop}

noncomputable def tCB (r : List V → Hp → VK → Prop) (t : TA) : TE := fun σ H Q => t σ H fun vs H1 => r vs H1 Q
/-- f(e, ..), f a built-in function -/
theorem pe_callB (hc : CallR X (.builtin id) r) (hg : Gl X x) (hm : X.mg x = none) (hv : bootBuiltins x = some (.builtin id)) (ha : PA X (e :: es) t) (hn : x ≠ "__name__" := by decide) (hdb : (x == ("__debug__" : Str)) = false := by decide)
    (he : starEach (e :: es) X.env = (false, eval e X.env) :: starEach es X.env := by rfl) (hpl : (backTo pos (starEach es X.env)).any (·.1) = false := by rfl) : PE X (.Call (.Name x p) (e :: es) [] pos) (tCB r t) := by
  intro pins s σ H Q I h
  refine wpAny_Call_Name_kw (ld_blt I hg hm hv ?_ hn hdb)
  exact PyProof.Rows.callWith_builtin1 (thn (ha pos pins s σ H _ I h) fun us s1 ⟨vs, H1, I1, r1, q1⟩ => hc pins s1 σ H1 vs us Q I1 r1 q1) he hpl
/-- T(e, ..), T a built-in type -/
theorem pe_callTy (hc : CallR X (.type T) r) (hg : Gl X x) (hm : X.mg x = none) (hv : bootBuiltins x = some (.type T)) (ha : PA X (e :: es) t) (hn : x ≠ "__name__" := by decide) (hdb : (x == ("__debug__" : Str)) = false := by decide)
    (he : starEach (e :: es) X.env = (false, eval e X.env) :: starEach es X.env := by rfl) (hpl : (backTo pos (starEach es X.env)).any (·.1) = false := by rfl) : PE X (.Call (.Name x p) (e :: es) [] pos) (tCB r t) := by
  intro pins s σ H Q I h
  refine wpAny_Call_Name_kw (ld_blt I hg hm hv ?_ hn hdb)
  exact PyProof.Rows.callWith_type1 (thn (ha pos pins s σ H _ I h) fun us s1 ⟨vs, H1, I1, r1, q1⟩ => hc pins s1 σ H1 vs us Q I1 r1 q1) he hpl
end
end L2

namespace HT
open PySem PyProof.Rows

/-- t < u of tuples of ints -/
noncomputable def lexLt : List Int → List Int → Bool
  | [], [] => false
  | [], _ :: _ => true
  | _ :: _, [] => false
  | x :: xs, y :: ys => if x = y then lexLt xs ys else decide (x < y)
theorem lexLt_cons (x y : Int) (xs ys : List Int) : lexLt (x :: xs) (y :: ys) = if x = y then lexLt xs ys else decide (x < y) := rfl
theorem lexLt_nil_cons (y : Int) (ys : List Int) : lexLt [] (y :: ys) = true := rfl
theorem lexLt_cons_nil (x : Int) (xs : List Int) : lexLt (x :: xs) [] = false := rfl

theorem eqAt_int (A : Around) (s : Shared) (a : Int) (t : Tok) (c : Int) (u : Tok) : ∃ e, SeqAt.EqAt A s (.int a t) (.int c u) e ∧ (e = true ↔ a = c) :=
  ⟨(a == c), SeqAt.EqAt.int_int a t c u, by simp⟩
theorem rcLt_int (A : Around) (s : Shared) (a : Int) (t : Tok) (c : Int) (u : Tok) (prog : Program) (w : World) (E : Value → Shared → Prop) (Q : Value → Shared → Prop) (h : Q (.bool (decide (a < c))) s) :
    wpAny (model prog w) A (richCompare .Lt (.int a t) (.int c u)) Q E s :=
  (PyProof.Rows.lt_int h : wpAny (model prog w) A (compareOp .Lt (.int a t) (.int c u)) Q E s)

section
open PySem.SeqAt
open PySem.AutoSeq1 (wpAny_loadPart')
open PySem.MeetsSeq PySem.MeetsSeq2 PySem.MeetsSeq3

end

section
variable {prog : Program} {w : World} {A : Around} {E : Value → Shared → Prop} {s : Shared}

/-! ### t[a:b], not the whole -/
/-- a slice's bound as a place among n (d where it is left out) -/
noncomputable def sIx (n d : Nat) : Option Int → Nat
  | none => d
  | some v => if v < 0 then (v + (n : Int)).toNat else min v.toNat n
theorem sIx_nat (n d k : Nat) : sIx n d (some (k : Int)) = min k n := by
  show (if (k : Int) < 0 then ((k : Int) + (n : Int)).toNat else min (k : Int).toNat n) = min k n
  rw [if_neg (by omega), Int.toNat_natCast]
end
end HT

namespace L2
open PySem PySem.Spec PyProof.Rows

/-! ### the parts of a slice -/
noncomputable abbrev TO := St → Hp → (Option Int → Hp → Prop) → Prop
/-- a slice's part (left out, or an int) -/
noncomputable def PO (X : Cx) (e : Option Expr) (t : TO) : Prop :=
  ∀ (pins : List (Addr × Obj)) (s : Shared) (σ : St) (H : Hp) (Q : Option Int → Hp → Prop), Inv X pins σ H s → t σ H Q →
    wpAny (model X.prog X.w) X.A (evalPart e X.env) (fun u s' => ∃ o H', Inv X pins σ H' s' ∧ IsPart u o ∧ Q o H') X.xe s
noncomputable def tNoPart : TO := fun _ H Q => Q none H
noncomputable def tPart (t : TE) : TO := fun σ H Q => t σ H fun x H1 => ∃ i, x = .int i ∧ Q (some i) H1

theorem intsAre_of {ns : List Int} : ∀ {us : List Value}, Vals (ns.map V.int) us → IntsAre us ns := by
  induction ns with
  | nil => intro us r; rw [List.map_nil] at r; cases r; exact .nil
  | cons n ns ih =>
    intro us r
    rw [List.map_cons] at r
    cases r with
    | cons r1 r2 =>
      obtain ⟨t, e⟩ := r1
      subst e
      exact .cons n t (ih r2)

section
variable {X : Cx} {e : Expr} {te : TE} {lo hi : Option Expr} {tl th : TO} {pos p2 : Pos}

theorem po_none : PO X none tNoPart := by
  intro pins s σ H Q I h
  rw [evalPart_none]
  exact wpAny_pure ⟨none, H, I, .none, h⟩
theorem po_some (h : PE X e te) : PO X (some e) (tPart te) := by
  intro pins s σ H Q I hw
  rw [evalPart_some]
  refine thn (h pins s σ H _ I hw) fun u s1 ⟨x, H1, I1, r1, q1⟩ => ?_
  obtain ⟨i, rfl, q⟩ := q1
  obtain ⟨t, rfl⟩ := r1
  exact ⟨some i, H1, I1, .int i t, q⟩

/-- what a slice of a value is, by values: the slice object stands at sl -/
noncomputable def SlR (X : Cx) (r : V → Option Int → Option Int → Hp → VK → Prop) : Prop :=
  ∀ (pins : List (Addr × Obj)) (s : Shared) (σ : St) (H : Hp) (x : V) (v vl vu : Value) (lo hi : Option Int) (sl : Addr) (Q : VK), Inv X pins σ H s → RelV x v → s.heap.IsSliceOf sl vl vu .none → IsPart vl lo → IsPart vu hi → r x lo hi H Q →
    ∃ T id, typeLookup (.type T) "__getitem__" = pure (some (.builtin id)) ∧ s.TypeIs v T ∧ wpAny (model X.prog X.w) X.A (getItem v (.ref sl)) (EP X pins σ Q) X.xe s
noncomputable def tSl (r : V → Option Int → Option Int → Hp → VK → Prop) (te : TE) (tl th : TO) : TE := fun σ H Q => te σ H fun x H1 => tl σ H1 fun l H2 => th σ H2 fun u H3 => r x l u H3 Q
/-- a[lo:hi], any a -/
theorem pe_slice {r : V → Option Int → Option Int → Hp → VK → Prop} (hr : SlR X r) (he : PE X e te) (hl : PO X lo tl) (hu : PO X hi th) : PE X (.Subscript e (.Slice lo hi none p2) pos) (tSl r te tl th) := by
  intro pins s σ H Q I h
  refine Subscript_ (thn (he pins s σ H _ I h) fun v s1 ⟨x, H1, I1, r1, q1⟩ => ?_)
  refine wpAny_Slice (thn (hl pins s1 σ H1 _ I1 q1) fun vl s2 ⟨l, H2, I2, pl, q2⟩ => thn (hu pins s2 σ H2 _ I2 q2) fun vu s3 ⟨u, H3, I3, pu, q3⟩ => ?_)
  rw [evalPart_none]
  refine wpAny_pure ?_
  have I4 : Inv X pins σ H3 { s3 with heap := s3.heap.push { cls := .type "slice", data := .fields #[vl, vu, .none] } } := I3.kept (t' := s3.toks) fun b ob q => Heap.get?_push_of_some _ q
  obtain ⟨T, id, hT, ht, hg⟩ := hr pins { s3 with heap := s3.heap.push { cls := .type "slice", data := .fields #[vl, vu, .none] } } σ H3 x v vl vu l u s3.heap.objs.size Q I4 r1 (Heap.IsSliceOf.new ..) pl pu q3
  show wpAny (model X.prog X.w) X.A (subscriptTail e (.Slice lo hi none p2) v (.ref s3.heap.objs.size)) (EP X pins σ Q) X.xe { s3 with heap := s3.heap.push { cls := .type "slice", data := .fields #[vl, vu, .none] } }
  exact tail_any (ops := [.ref s3.heap.objs.size, v]) ht hT hg (by with_unfolding_all rfl)

/-- the items of xs[lo:hi] -/
noncomputable def cutV (xs : List V) (lo hi : Option Int) : List V := (xs.drop (HT.sIx xs.length 0 lo)).take (HT.sIx xs.length xs.length hi - HT.sIx xs.length 0 lo)
theorem cutV_length (xs : List V) (lo hi : Option Int) : (cutV xs lo hi).length ≤ xs.length := by
  unfold cutV
  rw [List.length_take, List.length_drop]
  omega
/-! ### t < u, t + u -/
end
end L2

namespace L2
open PySem PySem.Spec PyProof.Rows

/-! ### places -/
/-- the place that an index of any sign means -/
noncomputable def ixN (n : Nat) (i : Int) : Option Nat := if 0 ≤ i then (if i < n then some i.toNat else none) else if -(n : Int) ≤ i then some (i + n).toNat else none
noncomputable def atI {α : Type} (xs : List α) (i : Int) : Option α := (ixN xs.length i).bind fun j => xs[j]?
theorem ixN_seq {n : Nat} {i : Int} {j : Nat} (h : ixN n i = some j) : seqIndex? i n = some j ∧ j < n ∧ -(n : Int) ≤ i ∧ i < n := by
  unfold ixN at h
  by_cases h0 : 0 ≤ i
  · rw [if_pos h0] at h
    by_cases h1 : i < n
    · rw [if_pos h1] at h
      have e : i.toNat = j := Option.some.inj h
      exact ⟨by rw [seqIndex_of h0 h1, e], by omega, by omega, h1⟩
    · rw [if_neg h1] at h; cases h
  · rw [if_neg h0] at h
    by_cases h1 : -(n : Int) ≤ i
    · rw [if_pos h1] at h
      have e : (i + n).toNat = j := Option.some.inj h
      exact ⟨by rw [seqIndex_neg (by omega) h1, e], by omega, h1, by omega⟩
    · rw [if_neg h1] at h; cases h
theorem atI_get {α : Type} {xs : List α} {i : Int} {v : α} (h : atI xs i = some v) : ∃ j, seqIndex? i xs.length = some j ∧ xs[j]? = some v ∧ j < xs.length ∧ -(xs.length : Int) ≤ i ∧ i < xs.length := by
  unfold atI at h
  cases e : ixN xs.length i with
  | none => rw [e] at h; cases h
  | some j =>
    rw [e] at h
    obtain ⟨h1, h2, h3, h4⟩ := ixN_seq e
    exact ⟨j, h1, h, h2, h3, h4⟩
theorem atI_nat {α : Type} {xs : List α} {j : Nat} {v : α} (h : xs[j]? = some v) : atI xs (j : Int) = some v := by
  have hj : j < xs.length := (List.getElem?_eq_some_iff.mp h).1
  have e : ixN xs.length (j : Int) = some j := by
    unfold ixN
    rw [if_pos (by omega), if_pos (by omega)]; simp
  unfold atI; rw [e]; exact h
/-! ### what may be subscripted -/
/-- what stands as an index of a plain subscript -/
noncomputable def PlainIx (b : Expr) : Prop := ∀ o i, subscripted b false o i = operate [o, i] (getItem o i)
/-- a subscript by values -/
noncomputable def IxR (X : Cx) (r : R2) : Prop :=
  ∀ (value slice : Expr) (pins : List (Addr × Obj)) (s : Shared) (σ : St) (H : Hp) (x y : V) (v u : Value) (Q : VK), Inv X pins σ H s → RelV x v → RelV y u → r x y H Q →
    subscripted slice false v u = operate [v, u] (getItem v u) → wpAny (model X.prog X.w) X.A (subscriptTail value slice v u) (EP X pins σ Q) X.xe s
/-- a call of a builtin's method by values: the receiver, the arguments -/
noncomputable def MtR (X : Cx) (id : String) (r : V → List V → Hp → VK → Prop) : Prop :=
  ∀ (pins : List (Addr × Obj)) (s : Shared) (σ : St) (H : Hp) (x : V) (xs : List V) (v : Value) (us : List Value) (Q : VK), Inv X pins σ H s → RelV x v → Vals xs us → r x xs H Q →
    wpAny (model X.prog X.w) X.A (call (.builtin id) (v :: us)) (EP X pins σ Q) X.xe s
section
variable {X : Cx} {a b : Expr} {ta tb : TE} {pos : Pos}
/-- a[b] -/
theorem pe_ix {r : R2} (hr : IxR X r) (ha : PE X a ta) (hb : PE X b tb) (hs : PlainIx b) : PE X (.Subscript a b pos) (tOp r ta tb) := by
  intro pins s σ H Q I h
  exact Subscript_ (binT ha hb I h fun v u s2 x y H2 I2 rx ry q => hr a b pins s2 σ H2 x y v u Q I2 rx ry q (hs _ _))

noncomputable def rIxL (K : PySem.W.Frag) : R2 := fun x y H Q => ∃ p xs i v, x = .ref p ∧ y = .int i ∧ SqL K H p xs ∧ atI xs i = some v ∧ Q v H
noncomputable def rIxT (K : PySem.W.Frag) : R2 := fun x y H Q => ∃ p xs i v, x = .ref p ∧ y = .int i ∧ SqT K H p xs ∧ atI xs i = some v ∧ Q v H
theorem ix_list : IxR X (rIxL X.K) := by
  intro value slice pins s σ H x y v u Q I rx ry h hs
  obtain ⟨p, xs, i, z, rfl, rfl, hq, he, q⟩ := h
  cases rx
  obtain ⟨t, rfl⟩ := ry
  obtain ⟨its, r, pl, hz⟩ := I.list hq
  obtain ⟨j, h1, h2, h3, h4, h5⟩ := atI_get he
  obtain ⟨w, ew, rw'⟩ := r.get h2
  have hl := r.length
  have hn := line63
  have fin : EP X pins σ Q w s := ⟨z, H, I, rw', q⟩
  by_cases h0 : 0 ≤ i
  · have hj : i.toNat = j := by
      rw [seqIndex_of h0 h5] at h1
      exact Option.some.inj h1
    exact item_listR pl.isList h0 (by omega) (by rw [hj]; simpa using ew) fin hs
  · have hj : (i + (its.toArray.size : Int)).toNat = j := by
      rw [seqIndex_neg (by omega) h4] at h1
      rw [List.size_toArray, ← hl]
      exact Option.some.inj h1
    exact subscriptTail_builtinR (x := w) pl.isList.typeIs slot_list_getitem.lookup
      (wpAny_getItem_list_neg (Q := fun r s' => r = w ∧ EP X pins σ Q r s') pl.isList (by omega) (by rw [List.size_toArray] <;> omega) (by omega) (by rw [hj]; simpa using ew) ⟨rfl, fin⟩) hs
theorem ix_tup : IxR X (rIxT X.K) := by
  intro value slice pins s σ H x y v u Q I rx ry h hs
  obtain ⟨p, xs, i, z, rfl, rfl, hq, he, q⟩ := h
  cases rx
  obtain ⟨t, rfl⟩ := ry
  obtain ⟨its, r, pl, hz⟩ := I.tuple hq
  obtain ⟨j, h1, h2, h3, h4, h5⟩ := atI_get he
  obtain ⟨w, ew, rw'⟩ := r.get h2
  have hl := r.length
  have hn := line63
  have fin : EP X pins σ Q w s := ⟨z, H, I, rw', q⟩
  exact subscriptTail_builtinR (x := w) pl.typeIs slot_tuple_getitem.lookup
    (getItem_tuple (j := j) (Q := fun r s' => r = w ∧ EP X pins σ Q r s') pl (by omega) (by omega) (by rw [List.size_toArray, ← hl]; exact h1) (by simpa using ew) ⟨rfl, fin⟩) hs
/-! ### xs[i] = v, any sign -/
/-! ### slices -/
theorem slice_bounds (lo hi : Option Int) (n : Nat) : (sliceBounds lo hi none n).1 = ((HT.sIx n 0 lo : Nat) : Int) ∧ (sliceBounds lo hi none n).2.1 = ((HT.sIx n n hi : Nat) : Int) ∧ (sliceBounds lo hi none n).2.2 = 1 := by
  refine ⟨?_, ?_, rfl⟩
  · cases lo with
    | none => simp [sliceBounds, HT.sIx]
    | some i =>
      simp only [sliceBounds, HT.sIx, Option.getD_none, show (1 : Int) > 0 by decide, if_true]
      by_cases h : i < 0
      · simp only [h, if_true] <;> omega
      · simp only [h, if_false] <;> omega
  · cases hi with
    | none => simp [sliceBounds, HT.sIx]
    | some i =>
      simp only [sliceBounds, HT.sIx, Option.getD_none, show (1 : Int) > 0 by decide, if_true]
      by_cases h : i < 0
      · simp only [h, if_true] <;> omega
      · simp only [h, if_false] <;> omega
theorem slicePick_cut (its : List Value) (lo hi : Option Int) : slicePick its.toArray lo hi none = ((its.drop (HT.sIx its.length 0 lo)).take (HT.sIx its.length its.length hi - HT.sIx its.length 0 lo)).toArray := by
  obtain ⟨h1, h2, h3⟩ := slice_bounds lo hi its.toArray.size
  unfold slicePick
  rw [h1, h2, h3]
  simp only [sliceRange_one, pick_run, List.size_toArray] <;> rfl
/-- xs[lo:hi] of a list: a new list -/
noncomputable def rSlL (K : PySem.W.Frag) : V → Option Int → Option Int → Hp → VK → Prop := fun x lo hi H Q => ∃ a xs, x = .ref a ∧ SqL K H a xs ∧ ∀ p, H p = none → Q (.ref p) (upd H p (.lst (cutV xs lo hi)))
theorem sl_list : SlR X (rSlL X.K) := by
  intro pins s σ H x v vl vu lo hi sl Q I rx hs pl pu h
  obtain ⟨a, xs, rfl, hx, q⟩ := h
  cases rx
  obtain ⟨its, r, ht, hz⟩ := I.list hx
  have hlen := r.length
  refine ⟨"list", _, slot_list_getitem.lookup, ht.isList.typeIs, ?_⟩
  refine wpAny_getItem_list_slice ht.isList hs pl pu .none (by simp) ?_ (by rw [List.size_toArray] <;> omega)
  rw [slicePick_cut, ← hlen]
  refine ⟨.ref s.heap.objs.size, _, I.laid (t' := s.toks) (o := .lst (cutV xs lo hi)) (fun b ob q => Heap.get?_push_of_some _ q) (Nat.le_refl _) ?_, rfl, q _ (I.hok.fresh (Nat.le_refl _))⟩
  exact ⟨Nat.le_trans (cutV_length xs lo hi) hz, _, 0, (r.drop (HT.sIx xs.length 0 lo)).take (HT.sIx xs.length xs.length hi - HT.sIx xs.length 0 lo), Heap.get?_push_size _ rfl⟩

/-! ### in, not in: flat items -/
noncomputable def flatV : V → Bool
  | .non => true
  | .bl _ => true
  | .int _ => true
  | .str _ => true
  | _ => false
/-- == of flat values -/
noncomputable def eqV : V → V → Bool
  | .non, .non => true
  | .bl a, .bl b => a == b
  | .bl a, .int b => (if a then 1 else 0) == b
  | .int a, .bl b => a == (if b then 1 else 0)
  | .int a, .int b => a == b
  | .str a, .str b => a == b
  | _, _ => false
theorem eqAt_V {A : Around} {s : Shared} {y x : V} {u v : Value} (ry : RelV y u) (rx : RelV x v) (fy : flatV y = true) (fx : flatV x = true) : SeqAt.EqAt A s u v (eqV y x) := by
  cases y with
  | non =>
    cases ry
    cases x with
    | non => cases rx; exact SeqAt.EqAt.same _
    | bl b => cases rx; exact SeqAt.EqAt.none_bool b
    | int b => obtain ⟨t, rfl⟩ := rx; exact SeqAt.EqAt.none_int b t
    | str b => obtain ⟨t, rfl⟩ := rx; exact SeqAt.EqAt.none_str b t
    | _ => exact absurd (show false = true from fx) Bool.false_ne_true
  | bl a =>
    cases ry
    cases x with
    | non => cases rx; exact SeqAt.EqAt.bool_none a
    | bl b => cases rx; exact SeqAt.EqAt.bool_bool a b
    | int b => obtain ⟨t, rfl⟩ := rx; exact SeqAt.EqAt.bool_int a b t
    | str b => obtain ⟨t, rfl⟩ := rx; exact SeqAt.EqAt.bool_str a b t
    | _ => exact absurd (show false = true from fx) Bool.false_ne_true
  | int a =>
    obtain ⟨t', rfl⟩ := ry
    cases x with
    | non => cases rx; exact SeqAt.EqAt.int_none a t'
    | bl b => cases rx; exact SeqAt.EqAt.int_bool a t' b
    | int b => obtain ⟨t, rfl⟩ := rx; exact SeqAt.EqAt.int_int a t' b t
    | str b => obtain ⟨t, rfl⟩ := rx; exact SeqAt.EqAt.int_str a t' b t
    | _ => exact absurd (show false = true from fx) Bool.false_ne_true
  | str a =>
    obtain ⟨t', rfl⟩ := ry
    cases x with
    | non => cases rx; exact SeqAt.EqAt.str_none a t'
    | bl b => cases rx; exact SeqAt.EqAt.str_bool a t' b
    | int b => obtain ⟨t, rfl⟩ := rx; exact SeqAt.EqAt.str_int a t' b t
    | str b => obtain ⟨t, rfl⟩ := rx; exact SeqAt.EqAt.str_str a t' b t
    | _ => exact absurd (show false = true from fx) Bool.false_ne_true
  | _ => exact absurd (show false = true from fy) Bool.false_ne_true
/-- the items' answers, read off the values (a value's own answer does not lean on its token) -/
noncomputable def eqU (x : V) (u : Value) : Bool := match u with
  | .none => eqV .non x
  | .bool b => eqV (.bl b) x
  | .int i _ => eqV (.int i) x
  | .str z _ => eqV (.str z) x
  | _ => false
theorem eqU_of {x y : V} {u : Value} (r : RelV y u) (f : flatV y = true) : eqU x u = eqV y x := by
  cases y with
  | non => cases r; rfl
  | bl b => cases r; rfl
  | int i => obtain ⟨t, rfl⟩ := r; rfl
  | str z => obtain ⟨t, rfl⟩ := r; rfl
  | _ => exact absurd (show false = true from f) Bool.false_ne_true
theorem any_eqU {x : V} : ∀ {xs : List V} {us : List Value}, Vals xs us → xs.all flatV = true → us.any (eqU x) = xs.any fun y => eqV y x
  | _, _, .nil, _ => rfl
  | y :: xs, u :: us, .cons r t, f => by
    rw [List.all_cons, Bool.and_eq_true] at f
    rw [List.any_cons, List.any_cons, eqU_of r f.1, any_eqU t f.2]
theorem mem_eqAt {A : Around} {s : Shared} {x : V} {v : Value} (rx : RelV x v) (fx : flatV x = true) : ∀ {xs : List V} {us : List Value}, Vals xs us → xs.all flatV = true → ∀ u ∈ us, SeqAt.EqAt A s u v (eqU x u)
  | _, _, .nil, _ => fun u hu => by cases hu
  | y :: xs, u :: us, .cons r t, f => fun u' hu => by
    rw [List.all_cons, Bool.and_eq_true] at f
    rcases List.mem_cons.mp hu with rfl | hu
    · rw [eqU_of r f.1]; exact eqAt_V r rx f.1 fx
    · exact mem_eqAt rx fx t f.2 u' hu
noncomputable def inV (x : V) (xs : List V) : Bool := xs.any fun y => eqV y x
/-- x in a list or tuple of flat items -/
noncomputable def rIn (K : PySem.W.Frag) (neg : Bool) : R2 := fun x y H Q => ∃ p xs, y = .ref p ∧ (SqL K H p xs ∨ SqT K H p xs) ∧ flatV x = true ∧ xs.all flatV = true ∧ Q (.bl (if neg then !inV x xs else inV x xs)) H
theorem op_in_seq : OpR X (compareOp .In) (rIn X.K false) := by
  intro pins s σ H x y v u Q I rx ry h
  obtain ⟨p, xs, rfl, hq, fx, fs, q⟩ := h
  cases ry
  rcases hq with hq | hq
  · obtain ⟨its, r, pl, hz⟩ := I.list hq
    refine SeqAt.in_listAt (eqU x) pl.isList (fun w hw => mem_eqAt rx fx r fs w (by simpa using hw)) ⟨.bl _, H, I, rfl, ?_⟩
    rw [show its.toArray.any (eqU x) = its.any (eqU x) by simp, any_eqU r fs]
    exact q
  · obtain ⟨its, r, pl, hz⟩ := I.tuple hq
    refine SeqAt.in_tupleAt (eqU x) pl (fun w hw => mem_eqAt rx fx r fs w (by simpa using hw)) ⟨.bl _, H, I, rfl, ?_⟩
    rw [show its.toArray.any (eqU x) = its.any (eqU x) by simp, any_eqU r fs]
    exact q
/-! ### len, list(x), tuple(x) of any list or tuple that is read -/
theorem call_len_seq : CallR X (.builtin "len") (fun xs H Q => ∃ p ys, xs = [.ref p] ∧ (SqL X.K H p ys ∨ SqT X.K H p ys) ∧ Q (.int ys.length) H) := by
  intro pins s σ H xs us Q I r h
  obtain ⟨p, ys, rfl, hq, q⟩ := h
  obtain ⟨u, rfl, rx⟩ := vals1 r
  cases rx
  have hn := line63
  rcases hq with hq | hq
  · obtain ⟨its, r', pl, hz⟩ := I.list hq
    have hlen := r'.length
    exact Calls.call_len_list pl.isList (by simp only [List.size_toArray] <;> omega) ⟨.int ys.length, H, I.tok _, ⟨s.toks + 1, by rw [List.size_toArray, hlen]⟩, q⟩
  · obtain ⟨its, r', pl, hz⟩ := I.tuple hq
    have hlen := r'.length
    exact len_tuple pl (by simp only [List.size_toArray] <;> omega) ⟨.int ys.length, H, I.tok _, ⟨s.toks + 1, by rw [List.size_toArray, hlen]⟩, q⟩
theorem call_list_of : CallR X (.type "list") (fun xs H Q => ∃ p ys, xs = [.ref p] ∧ (SqL X.K H p ys ∨ SqT X.K H p ys) ∧ ∀ l, H l = none → Q (.ref l) (upd H l (.lst ys))) := by
  intro pins s σ H xs us Q I r h
  obtain ⟨p, ys, rfl, hq, q⟩ := h
  obtain ⟨u, rfl, rx⟩ := vals1 r
  cases rx
  have fin : ∀ (its : List Value), Vals ys its → ys.length ≤ sizeLine → ∀ (h' : Heap) (c' : Nat), (∀ b o', s.heap.get? b = some o' → h'.get? b = some o') →
      h'.get? s.heap.objs.size = some { cls := .type "list", dict := none, data := .seq its.toArray c', slots := #[] } → EP X pins σ Q (.ref s.heap.objs.size) { s with heap := h' } := fun its r' hz h' c' kp e =>
    ⟨.ref s.heap.objs.size, _, I.laid (t' := s.toks) kp (Nat.le_refl _) (show ObjOk X.prog X.w _ h' _ (.lst ys) from ⟨hz, its, c', r', e⟩), rfl, q _ (I.hok.fresh (Nat.le_refl _))⟩
  rcases hq with hq | hq
  · obtain ⟨its, r', pl, hz⟩ := I.list hq
    have hlen := r'.length
    obtain ⟨o, ho, hc, n, hd⟩ := pl.isList
    exact call_list_seq p (.inl rfl) ho hc hd (fun h' c' kp e => fin its r' hz h' c' kp e) (by simp only [List.size_toArray] <;> omega)
  · obtain ⟨its, r', pl, hz⟩ := I.tuple hq
    have hlen := r'.length
    obtain ⟨o, ho, hc, n, hd⟩ := pl
    exact call_list_seq p (.inr rfl) ho hc hd (fun h' c' kp e => fin its r' hz h' c' kp e) (by simp only [List.size_toArray] <;> omega)
/-! ### the call of a builtin's method: o.m(..) -/
/-- the value is of that builtin type -/
noncomputable def tyV (K : PySem.W.Frag) (T : String) (x : V) (H : Hp) : Prop := match x with
  | .str _ => T = "str"
  | .int _ => T = "int"
  | .ref p => (T = "list" ∧ ∃ xs, SqL K H p xs) ∨ (T = "tuple" ∧ ∃ o, K.lookup p = some o ∧ o.cls = .type "tuple" ∧ o.dict = none) ∨
      (T = "dict" ∧ ((∃ kvs, H p = some (.dK kvs)) ∨ ∃ kvs, H p = some (.dT kvs))) ∨ (T = "set" ∧ ∃ S n, H p = some (.set S n))
  | _ => False
theorem tyV_is {pins : List (Addr × Obj)} {σ : St} {H : Hp} {s : Shared} {T : String} {x : V} {v : Value} (I : Inv X pins σ H s) (r : RelV x v) (ty : tyV X.K T x H) :
    s.TypeIs v T ∧ ∀ a, v = .ref a → ∃ ob, s.heap.get? a = some ob ∧ ob.dict = none := by
  cases x with
  | str z =>
    obtain ⟨t, rfl⟩ := r
    cases (show T = "str" from ty)
    exact ⟨typeIs_str s z t, fun _ e => nomatch e⟩
  | int i =>
    obtain ⟨t, rfl⟩ := r
    cases (show T = "int" from ty)
    exact ⟨typeIs_int s i t, fun _ e => nomatch e⟩
  | ref p =>
    cases r
    rcases ty with ⟨rfl, xs, hq⟩ | ⟨rfl, o, hk, hc, hd⟩ | ⟨rfl, hk⟩ | ⟨rfl, S, n, hk⟩
    · obtain ⟨its, _, pl, _⟩ := I.list hq
      refine ⟨pl.isList.typeIs, fun a e => ?_⟩
      cases e
      obtain ⟨o, n, e, c, hd, _⟩ := pl
      exact ⟨o, e, hd⟩
    · refine ⟨⟨o, I.kIn p o hk, hc⟩, fun a e => ?_⟩
      cases e
      exact ⟨o, I.kIn _ o hk, hd⟩
    · have z : ∃ o, s.heap.get? p = some o ∧ o.ExactDict := by
        rcases hk with ⟨kvs, hk⟩ | ⟨kvs, hk⟩
        · obtain ⟨_, _, _, _, o, _, _, e, ex, _⟩ := I.hok p _ hk
          exact ⟨o, e, ex⟩
        · obtain ⟨_, _, _, _, o, _, _, e, ex, _⟩ := I.hok p _ hk
          exact ⟨o, e, ex⟩
      obtain ⟨o, e, ex⟩ := z
      refine ⟨⟨o, e, ex.1⟩, fun a e2 => ?_⟩
      cases e2
      exact ⟨o, e, ex.2.1⟩
    · obtain ⟨o, _, _, _, e, ex, _⟩ := I.hok p _ hk
      refine ⟨⟨o, e, ex.1⟩, fun a e2 => ?_⟩
      cases e2
      exact ⟨o, e, ex.2.1⟩
  | _ => exact False.elim ty
noncomputable def tBM (K : PySem.W.Frag) (T : String) (r : V → List V → Hp → VK → Prop) (to : TE) (t : TA) : TE := fun σ H Q => to σ H fun x H1 => tyV K T x H1 ∧ t σ H1 fun xs H2 => r x xs H2 Q
variable {o e : Expr} {es : List Expr} {to : TE} {t : TA} {name : Str} {apos cpos : Pos} {T id : String} {r : V → List V → Hp → VK → Prop}
theorem pe_bm (pa : PlainAttrs T) (slot : Slot T name id) (hty : typeOf (.builtin id) = pure (.type "method_descriptor")) (hm : MtR X id r) (ho : PE X o to) (ha : PA X (e :: es) t)
    (hbase : attributeBase o name X.env (eval o X.env) = eval o X.env := by rfl)
    (hfew : ((backTo cpos (starEach (e :: es) X.env)).all (fun x => !x.1) && (backToKw cpos (keywordEach [] X.env)).all (fun x => x.1.isSome)
      && decide ((e :: es).length + ([] : List Keyword).length + (if ([] : List Keyword).isEmpty then 0 else 1) < 30)) = true := by rfl)
    (hline : (apos.endLine == cpos.line) = true := by rfl) (hs : starEach (e :: es) X.env = (false, eval e X.env) :: starEach es X.env := by rfl) (hplain : (backTo cpos (starEach es X.env)).any (·.1) = false := by rfl) :
    PE X (.Call (.Attribute o name apos) (e :: es) [] cpos) (tBM X.K T r to t) := by
  intro pins s σ H Q I h
  refine wpAny_Call_method_late hbase hfew hline rfl (thn (ho pins s σ H _ I h) fun v s1 ⟨x, H1, I1, r1, ty, q1⟩ => ?_)
  obtain ⟨h1, h2⟩ := tyV_is I1 r1 ty
  refine ⟨T, id, pa, slot, hty, h1, h2, ?_⟩
  have hA := ha cpos pins s1 σ H1 _ I1 q1
  rw [hs] at hA ⊢
  refine Calls.callWith_builtin (by show (false || (backTo cpos (starEach es X.env)).any (·.1)) = false; rw [hplain] <;> rfl) (Calls.evalArgs_plain ?_)
  exact thn hA fun us s2 ⟨vs, H2, I2, r2, q2⟩ => hm pins s2 σ H2 x vs v us Q I2 r1 r2 q2
end
end L2

namespace L2
open PySem PySem.Spec PyProof.Rows

noncomputable def MtM (X : Cx) (id : String) (r : V → List V → Hp → VK → Prop) : Prop :=
  ∀ (pins : List (Addr × Obj)) (s : Shared) (σ : St) (H : Hp) (x : V) (xs : List V) (v : Value) (us : List Value) (Q : VK), Inv X pins σ H s → RelV x v → Vals xs us → r x xs H Q →
    wpAny (model X.prog X.w) X.A (call (.builtin id) (v :: us)) (EP X pins σ Q) X.xe s

/-! ### lists of values -/
theorem Vals.one : ∀ {x : V} {us : List Value}, Vals [x] us → ∃ u, us = [u] ∧ RelV x u
  | _, _, .cons r .nil => ⟨_, rfl, r⟩
section
variable {X : Cx} {pins : List (Addr × Obj)} {σ : St} {H : Hp} {s : Shared} {l b : Addr} {xs ys zs : List V}

/-! ### the two steps: a tracked list is rewritten, a new list is laid -/
theorem Inv.lset {its its' : List Value} {n : Nat} {f : Array Value → Array Value} {t' : Nat} (I : Inv X pins σ H s) (hH : H l = some (.lst xs))
    (e : s.heap.get? l = some { cls := .type "list", data := .seq its.toArray n }) (hf : f its.toArray = its'.toArray) (hv : Vals ys its') (hz : ys.length ≤ sizeLine) :
    Inv X pins σ (upd H l (.lst ys)) { s with heap := s.heap.update l (Obj.mapSeq f), toks := t' } := by
  have q := PySem.IsL.update e f
  rw [hf] at q
  refine I.write (x := l) (e := l) (by rw [hH]; exact trivial) (.inl rfl) (fun b' u hb hu => (Heap.get?_update_other s.heap (Obj.mapSeq f) (Ne.symm hb)).trans hu) ⟨_, q⟩ ?_
  exact ⟨hz, its', _, hv, q⟩
theorem Inv.lnew {its : List Value} {t' : Nat} (I : Inv X pins σ H s) (hv : Vals ys its) (hz : ys.length ≤ sizeLine) :
    Inv X pins σ (upd H s.heap.objs.size (.lst ys)) { s with heap := s.heap.push { cls := .type "list", data := .seq its.toArray }, toks := t' } :=
  I.laid (fun _ _ q => Heap.get?_push_of_some _ q) (Nat.le_refl _) ⟨hz, its, 0, hv, Heap.get?_push_size _ rfl⟩
theorem Inv.fresh (I : Inv X pins σ H s) : H s.heap.objs.size = none := I.hok.fresh (Nat.le_refl _)
theorem Inv.lstM (I : Inv X pins σ H s) (hH : H l = some (.lst xs)) : xs.length ≤ sizeLine ∧ ∃ (its : List Value) (n : Nat), Vals xs its ∧ xs.length = its.length ∧ s.heap.get? l = some { cls := .type "list", data := .seq its.toArray n } := by
  obtain ⟨z, its, n, r, e⟩ := I.hok l _ hH
  exact ⟨z, its, n, r, r.length, e⟩

theorem notLongL {n : Nat} (h : n ≤ sizeLine) : Builtin.List.listTooLong n = false := by
  unfold Builtin.List.listTooLong
  exact decide_eq_false (by omega)
end

section
variable {X : Cx}

/-! ### methods -/
noncomputable def rAppend : V → List V → Hp → VK → Prop := fun x vs H Q => ∃ l xs y, x = .ref l ∧ vs = [y] ∧ H l = some (.lst xs) ∧ xs.length < sizeLine ∧ Q .non (upd H l (.lst (xs ++ [y])))
theorem mt_append : MtM X "list.append" rAppend := by
  intro pins s σ H x vs v us Q I rx rv h
  obtain ⟨l, xs, y, rfl, rfl, hH, hz, q⟩ := h
  cases rx
  obtain ⟨u, rfl, ru⟩ := rv.one
  obtain ⟨z, its, n, r, hl, e⟩ := I.lstM hH
  refine call_meets F.slot_list_append ⟨_, e, rfl⟩ F.entry_list_append (F.args_list_append_2 _ _) (PySem.list_append l its.toArray n u (by rw [List.size_toArray]; omega)) ⟨e, ?_⟩
  refine ⟨.non, _, I.lset (its' := its ++ [u]) hH e (by simp) (r.append (.cons ru .nil)) ?_, rfl, q⟩
  rw [List.length_append, List.length_singleton]
  omega

noncomputable def rExtend : V → List V → Hp → VK → Prop := fun x vs H Q => ∃ l b xs zs, x = .ref l ∧ vs = [.ref b] ∧ H l = some (.lst xs) ∧ H b = some (.lst zs) ∧ xs.length + zs.length ≤ sizeLine ∧ Q .non (upd H l (.lst (xs ++ zs)))
theorem mt_extend : MtM X "list.extend" rExtend := by
  intro pins s σ H x vs v us Q I rx rv h
  obtain ⟨l, b, xs, zs, rfl, rfl, hH, hB, hz, q⟩ := h
  cases rx
  obtain ⟨u, rfl, ru⟩ := rv.one
  cases ru
  obtain ⟨z, its, n, r, hl, e⟩ := I.lstM hH
  obtain ⟨z2, its2, n2, r2, hl2, e2⟩ := I.lstM hB
  have hsz : its.toArray.size + its2.toArray.size ≤ sizeLine := by rw [List.size_toArray, List.size_toArray]; omega
  have hlong : ¬ (!its.toArray.isEmpty && Builtin.List.listTooLong (its.toArray.size + its2.toArray.size)) = true := by
    rw [notLongL hsz, Bool.and_false]
    exact Bool.false_ne_true
  refine call_meets F.slot_list_extend ⟨_, e, rfl⟩ F.entry_list_extend (F.args_list_extend_2 _ _)
    (AutoSeq1.list_extend_list_list_0 l its.toArray n b its2.toArray n2 hlong (by rw [List.size_toArray]; omega) (by omega)) ⟨e, e2, ?_⟩
  refine ⟨.non, _, I.lset (its' := its ++ its2) hH e (by simp) (r.append r2) ?_, rfl, q⟩
  rw [List.length_append]
  omega

/-! ### list + list, list += list, list * int -/
noncomputable def rCat : R2 := fun x y H Q => ∃ l b xs zs, x = .ref l ∧ y = .ref b ∧ H l = some (.lst xs) ∧ H b = some (.lst zs) ∧ xs.length + zs.length ≤ sizeLine ∧ ∀ p, H p = none → Q (.ref p) (upd H p (.lst (xs ++ zs)))
theorem op_cat : OpR X (binaryOp .Add) rCat := by
  intro pins s σ H x y v u Q I rx ry h
  obtain ⟨l, b, xs, zs, rfl, rfl, hH, hB, hz, q⟩ := h
  cases rx
  cases ry
  obtain ⟨z, its, n, r, hl, e⟩ := I.lstM hH
  obtain ⟨z2, its2, n2, r2, hl2, e2⟩ := I.lstM hB
  refine PySem.P.add_list e e2 ?_ (by rw [List.size_toArray, List.size_toArray]; omega)
  have ea : its.toArray ++ its2.toArray = (its ++ its2).toArray := by simp
  rw [ea]
  exact ⟨.ref _, _, I.lnew (t' := s.toks) (r.append r2) (by rw [List.length_append]; omega), rfl, q _ I.fresh⟩
/-! ### del xs[i] -/
end

/-! ### xs[a:b] = ys -/
section
variable {prog : Program} {w : World} {A : Around} {E : Value → Shared → Prop} {s : Shared}
set_option maxRecDepth 100000 in
end

section
variable {X : Cx}
end
end L2

namespace L2
open PySem PySem.Spec PyProof.Rows

/-! ### the library's walks over a list of ints, kept objects alone -/
section
variable {prog : Program} {w : World} {A : Around} {E : Value → Shared → Prop} {s : Shared} {l : Addr} {its : List Value} {ns : List Int} {Q : Value → Shared → Prop}
end

/-! ### the calls, by values (CallR of 03t; MtR of 06l) -/
section
variable {X : Cx}
/-! sorted, sort (fewer than 64 items: the library's own bound) -/
end

/-! ### list.index, flat items -/
section
variable {X : Cx}
end

/-! ### type(x) of an own instance; is, is not of a module's class -/
section
variable {X : Cx}
end

/-! ### any(xs), all(xs) of a list of bools -/
theorem iter_any {prog : Program} {w : World} {A : Around} {E : Value → Shared → Prop} {s : Shared} {l : Addr} {items : Array Value} {Q : Value → Shared → Prop} (hl : s.heap.IsList l items)
    (h : ∀ s₂ : Shared, s₂ = { s with heap := s.heap.push { cls := .type "list_iterator", data := .fields #[.ref l, .int 0 0] } } →
      (s₂.heap.IsListIter s.heap.objs.size l 0 ∧ s₂.heap.IsList l items) → l ≠ s.heap.objs.size → Q (.ref s.heap.objs.size) s₂) : wpAny (model prog w) A (pyIter (.ref l)) Q E s := by
  have hlt : l < s.heap.objs.size := by obtain ⟨_, e, _⟩ := hl; exact Heap.lt_size e
  exact wpAny_pyIter_list hl (h _ rfl ⟨⟨_, Heap.get?_push_size _ rfl, rfl, rfl⟩, hl.push _⟩ (Nat.ne_of_lt hlt))
section
variable {X : Cx}
end

/-! ### == and != of data at any depth: none, bools, ints, texts, lists, tuples -/
section
variable {X : Cx} {pins : List (Addr × Obj)} {σ : St} {H : Hp} {s : Shared}
end
section
variable {X : Cx}
end
end L2

namespace L2
open PySem PySem.Spec PyProof.Rows
noncomputable abbrev CellAt (h : Heap) (c : Addr) (v : Option Value) : Prop := h.IsCell c v
noncomputable def relS (scope sc : Scope) : Scope :=
  { scope with names := scope.names.map fun (n, k) => if (k == .free && sc.kind == .function && sc.names.lookup n == some .cell) then (n, .cell) else (n, k) }

noncomputable def cloFrom (cells : List (Str × Addr)) : List (Str × NameKind) → List (Str × Addr) → List (Str × Addr)
  | [], acc => acc
  | (n, k) :: r, acc => if k == .free then cloFrom cells r ((n, (cells.lookup n).getD 0) :: acc) else cloFrom cells r acc

theorem closure_loop (env : Env) (f : Str × NameKind → List (Str × Addr) → Sem (ForInStep (List (Str × Addr))))
    (hf : ∀ n k c, f (n, k) c = if k == .free then (do let a ← cellOf env n; pure (.yield ((n, a) :: c))) else pure (.yield c)) :
    ∀ (names : List (Str × NameKind)) (acc : List (Str × Addr)), (∀ y ∈ names, y.2 = .free → ∃ c, env.cells.lookup y.1 = some c) → forIn names acc f = pure (cloFrom env.cells names acc)
  | [], acc, _ => by rw [List.forIn_nil]; rfl
  | (n, k) :: r, acc, h => by
    rw [List.forIn_cons, hf]
    have ih := fun acc => closure_loop env f hf r acc fun y hy => h y (List.mem_cons_of_mem _ hy)
    unfold cloFrom
    by_cases hk : (k == NameKind.free) = true
    · rw [if_pos hk, if_pos hk]
      obtain ⟨c, hc⟩ := h (n, k) List.mem_cons_self (by simpa using hk)
      have e : cellOf env n = pure c := by unfold cellOf; rw [hc]
      rw [e]
      have e2 : (env.cells.lookup n).getD 0 = c := by rw [hc]; rfl
      rw [e2]
      exact ih _
    · rw [if_neg hk, if_neg hk]
      exact ih _
theorem closure_ok {scope : Scope} {env : Env} (h : ∀ y ∈ scope.names, y.2 = .free → ∃ c, env.cells.lookup y.1 = some c) : closureFor scope env = pure (cloFrom env.cells scope.names []) := by
  simp only [closureFor]
  rw [closure_loop env _ (fun n k c => rfl) scope.names [] h]
  rfl

theorem mem_lookup {α : Type} : ∀ {l : List (Str × α)} {n : Str} {c : α}, (n, c) ∈ l → ∃ c', l.lookup n = some c'
  | (k, v) :: r, n, c, h => by
    rw [List.lookup_cons]
    cases hb : n == k with
    | true => exact ⟨_, rfl⟩
    | false =>
      rcases List.mem_cons.mp h with e | h
      · cases e; simp at hb
      · exact mem_lookup h

theorem cloFrom_mem {cells : List (Str × Addr)} : ∀ {names : List (Str × NameKind)} {acc : List (Str × Addr)} {n : Str} {c : Addr}, (n, c) ∈ cloFrom cells names acc → (n, c) ∈ acc ∨ ((n, .free) ∈ names ∧ c = (cells.lookup n).getD 0)
  | [], _, _, _, h => .inl h
  | (m, k) :: r, acc, n, c, h => by
    unfold cloFrom at h
    split at h
    · rename_i hk
      have hk : k = .free := by simpa using hk
      rcases cloFrom_mem h with h | ⟨h1, h2⟩
      · rcases List.mem_cons.mp h with e | h
        · cases e; exact .inr ⟨hk ▸ List.mem_cons_self, rfl⟩
        · exact .inl h
      · exact .inr ⟨List.mem_cons_of_mem _ h1, h2⟩
    · rcases cloFrom_mem h with h | ⟨h1, h2⟩
      · exact .inl h
      · exact .inr ⟨List.mem_cons_of_mem _ h1, h2⟩
theorem cloFrom_acc {cells : List (Str × Addr)} : ∀ {names : List (Str × NameKind)} {acc : List (Str × Addr)} {p : Str × Addr}, p ∈ acc → p ∈ cloFrom cells names acc
  | [], _, _, h => h
  | (m, k) :: r, acc, p, h => by
    unfold cloFrom
    split
    · exact cloFrom_acc (List.mem_cons_of_mem _ h)
    · exact cloFrom_acc h
theorem cloFrom_has {cells : List (Str × Addr)} : ∀ {names : List (Str × NameKind)} {acc : List (Str × Addr)} {n : Str}, (n, .free) ∈ names → (n, (cells.lookup n).getD 0) ∈ cloFrom cells names acc
  | (m, k) :: r, acc, n, h => by
    unfold cloFrom
    rcases List.mem_cons.mp h with e | h
    · cases e
      exact cloFrom_acc List.mem_cons_self
    · split
      · exact cloFrom_has h
      · exact cloFrom_has h

theorem cells_mem : ∀ {names : List (Str × NameKind)} {h : Heap} {acc : List (Str × Addr)} {x : Str} {c : Addr}, (x, c) ∈ cellsFrom h.objs.size names acc →
    (x, c) ∈ acc ∨ ((x, .cell) ∈ names ∧ h.objs.size ≤ c ∧ CellAt (pushCells h names) c none)
  | [], _, _, _, _, h => .inl h
  | (n, k) :: r, h, acc, x, c, hm => by
    unfold cellsFrom at hm
    unfold pushCells
    split at hm
    · rename_i hk
      rw [if_pos hk]
      have hk : k = .cell := by simpa using hk
      rw [← Heap.size_push h { cls := .type "cell", data := .cell none }] at hm
      rcases cells_mem hm with hm | ⟨h1, h2, h3⟩
      · rcases List.mem_cons.mp hm with e | hm
        · cases e
          exact .inr ⟨hk ▸ List.mem_cons_self, Nat.le_refl _, _, pushCells_keeps r _ _ _ (Heap.get?_push_size _ rfl), rfl⟩
        · exact .inl hm
      · rw [Heap.size_push] at h2
        exact .inr ⟨List.mem_cons_of_mem _ h1, Nat.le_of_succ_le h2, h3⟩
    · rename_i hk
      rw [if_neg hk]
      rcases cells_mem hm with hm | ⟨h1, h2, h3⟩
      · exact .inl hm
      · exact .inr ⟨List.mem_cons_of_mem _ h1, h2, h3⟩
theorem cells_acc : ∀ {names : List (Str × NameKind)} {n : Nat} {acc : List (Str × Addr)} {p : Str × Addr}, p ∈ acc → p ∈ cellsFrom n names acc
  | [], _, _, _, h => h
  | (m, k) :: r, n, acc, p, h => by
    unfold cellsFrom
    split
    · exact cells_acc (List.mem_cons_of_mem _ h)
    · exact cells_acc h
theorem cells_has : ∀ {names : List (Str × NameKind)} {n : Nat} {acc : List (Str × Addr)} {x : Str}, (x, .cell) ∈ names → ∃ c, (x, c) ∈ cellsFrom n names acc
  | (m, k) :: r, n, acc, x, h => by
    unfold cellsFrom
    rcases List.mem_cons.mp h with e | h
    · cases e
      exact ⟨n, cells_acc List.mem_cons_self⟩
    · split
      · exact cells_has h
      · exact cells_has h
theorem cells_inj : ∀ {names : List (Str × NameKind)} {h : Heap} {acc : List (Str × Addr)} {x y : Str} {c : Addr}, (∀ p ∈ acc, p.2 < h.objs.size) → (∀ x y c, (x, c) ∈ acc → (y, c) ∈ acc → x = y) →
    (x, c) ∈ cellsFrom h.objs.size names acc → (y, c) ∈ cellsFrom h.objs.size names acc → x = y
  | [], _, _, _, _, _, _, hi, h1, h2 => hi _ _ _ h1 h2
  | (n, k) :: r, h, acc, x, y, c, hl, hi, h1, h2 => by
    unfold cellsFrom at h1 h2
    split at h1
    · rename_i hk
      rw [if_pos hk] at h2
      rw [← Heap.size_push h { cls := .type "cell", data := .cell none }] at h1 h2
      refine cells_inj (h := h.push _) (fun p hp => ?_) (fun x y c a b => ?_) h1 h2
      · rw [Heap.size_push]
        rcases List.mem_cons.mp hp with rfl | hp
        · exact Nat.lt_succ_self _
        · exact Nat.lt_succ_of_lt (hl p hp)
      · rcases List.mem_cons.mp a with e | a <;> rcases List.mem_cons.mp b with e' | b
        · cases e; cases e'; rfl
        · cases e; exact absurd (hl _ b) (Nat.lt_irrefl _)
        · cases e'; exact absurd (hl _ a) (Nat.lt_irrefl _)
        · exact hi _ _ _ a b
    · rename_i hk
      rw [if_neg hk] at h2
      exact cells_inj hl hi h1 h2

theorem newEnv_comp {M : Model} {A : Around} {E : Value → Shared → Prop} {s : Shared} {scope : Scope} {globals : Addr} {closure : List (Str × Addr)} {qual : Str} {func : Option Addr} {code : Value} {around : Env} {builtins : Addr} {Q : Env → Shared → Prop}
    (h : Q (newEnv scope s.heap.objs.size globals (cellsFrom (s.heap.objs.size + 1) scope.names closure) qual func code (some around) builtins)
      { s with heap := pushCells (s.heap.push { cls := .type "dict", data := .dict #[] }) scope.names }) :
    wpAny M A (newFunctionEnv scope globals closure [] qual func code (some around) builtins) Q E s := by
  simp only [newFunctionEnv, Option.isSome_some, if_true]
  refine wpAny_bind (wpAny_alloc ?_)
  refine wpAny_bind (wpAny_layCells _ (fun n k c => rfl) scope.names closure _ _ ?_)
  rw [show ({ s with heap := s.heap.push { cls := .type "dict", data := .dict #[] } } : Shared).heap.objs.size = s.heap.objs.size + 1 from Heap.size_push ..]
  rw [List.forIn_nil]
  exact wpAny_bind (wpAny_pure (wpAny_pure h))

/-- every name of the written scope, in the scope that runs -/
theorem lookup_relS {sc : Scope} : ∀ {names : List (Str × NameKind)} {x : Str} {k : NameKind},
    (names.map fun (n, k) => if (k == NameKind.free && sc.kind == .function && sc.names.lookup n == some .cell) then (n, NameKind.cell) else (n, k)).lookup x = some k →
    ∃ k', names.lookup x = some k' ∧ (k = k' ∨ (k' = .free ∧ k = .cell))
  | [], _, _, h => by simp at h
  | (n, k₀) :: r, x, k, h => by
    have ih := @lookup_relS sc r x k
    have h' : List.lookup x ((if (k₀ == NameKind.free && sc.kind == .function && sc.names.lookup n == some .cell) = true then (n, NameKind.cell) else (n, k₀)) :: (r.map _)) = some k := h
    cases hx : x == n with
    | true =>
      simp only [List.lookup_cons, hx]
      by_cases hc : (k₀ == NameKind.free && sc.kind == .function && sc.names.lookup n == some .cell) = true
      · rw [if_pos hc] at h'
        simp only [List.lookup_cons, hx] at h'
        cases h'
        simp only [Bool.and_eq_true, beq_iff_eq] at hc
        exact ⟨k₀, rfl, .inr ⟨hc.1.1, rfl⟩⟩
      · rw [if_neg hc] at h'
        simp only [List.lookup_cons, hx] at h'
        cases h'
        exact ⟨_, rfl, .inl rfl⟩
    | false =>
      simp only [List.lookup_cons, hx]
      by_cases hc : (k₀ == NameKind.free && sc.kind == .function && sc.names.lookup n == some .cell) = true
      · rw [if_pos hc] at h'
        simp only [List.lookup_cons, hx] at h'
        exact ih h'
      · rw [if_neg hc] at h'
        simp only [List.lookup_cons, hx] at h'
        exact ih h'
/-- the names of a comprehension's block: its own (with their places in N), or captured -/
structure BlkOk (N : List Str) (sc scope : Scope) (own : List (Str × Nat)) : Prop where
  kind : scope.kind = .function
  uniq : ∀ y ∈ scope.names, scope.names.lookup y.1 = some y.2
  ix : ∀ p ∈ own, N[p.2]? = some p.1
  free : ∀ y ∈ scope.names, y.2 = .free → sc.names.lookup y.1 = some .cell ∨ sc.names.lookup y.1 = some .free
  own : ∀ y ∈ scope.names, y.2 = .local ∨ y.2 = .cell → y.1 ∈ own.map (·.1) ∨ y.1 ∉ N
/-- the slots of the block's own names forgotten -/
noncomputable def wipe (σ : St) : List Nat → St
  | [] => σ
  | v :: vs => (wipe σ vs).set v none
theorem wipe_length (σ : St) : ∀ vs : List Nat, (wipe σ vs).length = σ.length
  | [] => rfl
  | v :: vs => by unfold wipe; rw [List.length_set, wipe_length σ vs]
theorem wipe_some {σ : St} {i : Nat} {x : V} : ∀ {vs : List Nat}, (wipe σ vs)[i]? = some (some x) → σ[i]? = some (some x) ∧ i ∉ vs
  | [], h => ⟨h, by simp⟩
  | v :: vs, h => by
    unfold wipe at h
    by_cases hi : v = i
    · subst hi
      by_cases hv : v < (wipe σ vs).length
      · rw [List.getElem?_set_self hv] at h; cases h
      · rw [List.getElem?_eq_none (by simpa using hv)] at h; cases h
    · rw [List.getElem?_set_ne hi] at h
      obtain ⟨h1, h2⟩ := wipe_some h
      exact ⟨h1, by simp only [List.mem_cons, not_or]; exact ⟨fun e => hi e.symm, h2⟩⟩

/-- the context of a block that starts at s, its iterator's objects at fp -/
noncomputable abbrev Cx.blk (X : Cx) (s : Shared) (H : Hp) (scope : Scope) (cenv : Env) (fp : List Addr) : Cx := { X with s_0 := s, H_0 := H, env := cenv, outer := X.stack, ex := fp, fn := fun x => scope.names.lookup x == some .cell, pn := [], xe := fun _ _ => False }
section
variable {X : Cx} {pins : List (Addr × Obj)} {σ : St} {H : Hp} {s : Shared}
theorem block_start {scope : Scope} {own : List (Str × Nat)} {fp : List Addr} (I : Inv X pins σ H s) (ok : BlkOk X.N X.env.scope scope own) (hN : X.N.Nodup) (hfp : ∀ b ∈ fp, FpOk X pins H b ∧ b < s.heap.objs.size) :
    Inv (X.blk s H scope (compEnvC scope (cellsFrom (s.heap.objs.size + 1) scope.names (cloFrom X.env.cells scope.names [])) s.heap.objs.size X.env) fp) [] (wipe σ (own.map (·.2))) H { s with heap := pushCells (s.heap.push { cls := .type "dict", data := .dict #[] }) scope.names } := by
  have hfree : ∀ y ∈ scope.names, y.2 = .free → ∃ c, X.env.cells.lookup y.1 = some c := fun y hy e => by
    rcases ok.free y hy e with k | k
    · exact I.ok.has _ (.inl k)
    · exact I.ok.has _ (.inr k)
  generalize hcenv : compEnvC scope (cellsFrom (s.heap.objs.size + 1) scope.names (cloFrom X.env.cells scope.names [])) s.heap.objs.size X.env = cenv
  have kp : ∀ b o, s.heap.get? b = some o → (pushCells (s.heap.push { cls := .type "dict", data := .dict #[] }) scope.names).get? b = some o := fun b o e => pushCells_keeps _ _ _ _ (Heap.get?_push_of_some _ e)
  have hL : cenv.locals = s.heap.objs.size := by rw [← hcenv]; rfl
  have hcl : cenv.cells = cellsFrom (s.heap.objs.size + 1) scope.names (cloFrom X.env.cells scope.names []) := by rw [← hcenv]; rfl
  have hsc : cenv.scope = relS scope X.env.scope := by rw [← hcenv]; rfl
  rw [← Heap.size_push s.heap { cls := .type "dict", data := .dict #[] }] at hcl
  have cm : ∀ {y c}, (y, c) ∈ cloFrom X.env.cells scope.names [] → X.env.cells.lookup y = some c ∧ c < s.heap.objs.size := fun {y c} hm => by
    rcases cloFrom_mem hm with hm | ⟨h1, rfl⟩
    · cases hm
    · obtain ⟨c, hc⟩ := hfree _ h1 rfl
      rw [hc]
      obtain ⟨w, z⟩ := I.cell _ _ hc
      exact ⟨rfl, z.lt⟩
  have mem : ∀ {y c}, cenv.cells.lookup y = some c → (X.env.cells.lookup y = some c ∧ c < s.heap.objs.size) ∨ (s.heap.objs.size + 1 ≤ c ∧ CellAt (pushCells (s.heap.push { cls := .type "dict", data := .dict #[] }) scope.names) c none) := fun {y c} e => by
    rw [hcl] at e
    rcases cells_mem (PySem.mem_of_lookup e) with hm | ⟨_, h2, h3⟩
    · exact .inl (cm hm)
    · rw [Heap.size_push] at h2; exact .inr ⟨h2, h3⟩
  have look : ∀ {y}, scope.names.lookup y = some .free → ∃ c, cenv.cells.lookup y = some c ∧ X.env.cells.lookup y = some c := fun {y} hl => by
    have hy : (y, NameKind.free) ∈ scope.names := PySem.mem_of_lookup hl
    obtain ⟨c', e'⟩ := mem_lookup (cells_acc (names := scope.names) (n := (s.heap.push { cls := .type "dict", data := .dict #[] }).objs.size) (cloFrom_has (cells := X.env.cells) (acc := []) hy))
    rw [← hcl] at e'
    refine ⟨c', e', ?_⟩
    rw [hcl] at e'
    rcases cells_mem (PySem.mem_of_lookup e') with hm | ⟨h1, _, _⟩
    · exact (cm hm).1
    · have := ok.uniq _ h1
      rw [hl] at this; cases this
  have okB : (X.blk s H scope cenv fp).Ok := by
    refine ⟨I.ok.mod, by show cenv.scope.kind = _; rw [hsc]; exact ok.kind, by show cenv.globals = _; rw [← hcenv]; exact I.ok.glob, by show cenv.builtins = _; rw [← hcenv]; exact I.ok.blt, by show s.heap.objs.size ≤ cenv.locals; rw [hL]; exact Nat.le_refl _,
      fun y z c e1 e2 => ?_, fun y hy => ?_, fun y c z e => ?_, I.ok.hd, I.ok.frames, .inl rfl, fun b hb => ⟨?_, fun y c e z => ?_⟩, I.bs, Nat.le_trans I.ok.bsz I.sz, fun b o e hb => ?_, fun b hb z => ?_, I.stack, I.stkFree⟩
    · have e1 : cenv.cells.lookup y = some c := e1
      have e2 : cenv.cells.lookup z = some c := e2
      rw [hcl] at e1 e2
      refine cells_inj (fun p hp => ?_) (fun y z c a b => I.ok.inj y z c (cm a).1 (cm b).1) (PySem.mem_of_lookup e1) (PySem.mem_of_lookup e2)
      rw [Heap.size_push]
      exact Nat.lt_succ_of_lt (cm (y := p.1) (c := p.2) hp).2
    · show ∃ c, cenv.cells.lookup y = some c
      have key : ∀ k, cenv.kindOf y = some k → (k = .cell ∨ k = .free) → ∃ c, cenv.cells.lookup y = some c := fun k hk hk' => by
        unfold Env.kindOf at hk
        rw [hsc] at hk
        obtain ⟨k', e, r⟩ := lookup_relS hk
        have : k' = .cell ∨ k' = .free := by
          rcases r with rfl | ⟨rfl, _⟩
          · exact hk'
          · exact .inr rfl
        rcases this with rfl | rfl
        · obtain ⟨c, hm⟩ := cells_has (n := (s.heap.push { cls := .type "dict", data := .dict #[] }).objs.size) (acc := cloFrom X.env.cells scope.names []) (PySem.mem_of_lookup e)
          obtain ⟨c', e'⟩ := mem_lookup hm
          exact ⟨c', by rw [hcl]; exact e'⟩
        · obtain ⟨c, h1, _⟩ := look e
          exact ⟨c, h1⟩
      rcases hy with hy | hy
      · exact key _ hy (.inl rfl)
      · exact key _ hy (.inr rfl)
    · have z : (scope.names.lookup y == some NameKind.cell) = true := z
      have z : scope.names.lookup y = some .cell := by simpa using z
      have e : cenv.cells.lookup y = some c := e
      rw [hcl] at e
      rcases cells_mem (PySem.mem_of_lookup e) with hm | ⟨_, h2, _⟩
      · rcases cloFrom_mem hm with hm | ⟨h1, _⟩
        · cases hm
        · have q := ok.uniq _ h1
          rw [z] at q; cases q
      · rw [Heap.size_push] at h2
        exact Nat.le_of_succ_le h2
    · show b ≠ cenv.locals
      rw [hL]; exact Nat.ne_of_lt (hfp b hb).2
    · have e : cenv.cells.lookup y = some c := e
      rcases mem e with ⟨h1, _⟩ | ⟨h1, _⟩
      · exact (hfp b hb).1.2.2.2.2.1 y c h1 z
      · have h2 : s.heap.objs.size + 1 ≤ b := by rw [← z]; exact h1
        exact absurd (Nat.lt_of_lt_of_le (hfp b hb).2 (Nat.le_of_succ_le h2)) (Nat.lt_irrefl _)
    · rcases (hfp b hb).1.2.2.2.1 with z | z
      · exact I.ok.noex b o e z
      · exact absurd (Nat.lt_of_lt_of_le (Heap.lt_size e) (Nat.le_trans I.ok.bsz z)) (Nat.lt_irrefl _)
    · rcases List.mem_cons.mp (I.stkSub b z) with z | z
      · exact (hfp b hb).1.2.1 z
      · exact (hfp b hb).1.2.2.1 z
  refine ⟨okB, rfl, I.bare, Un.kept kp, ⟨fun _ => none, ?_, fun i y av e1 e2 e3 => ?_⟩, fun y c e => ?_, ?_, fun y c e => ?_, fun p hp => ?_, I.hok.kept kp, by rw [wipe_length]; exact I.len⟩
  · show Heap.Ns _ cenv.locals _
    rw [hL]
    exact Heap.Ns.keeps (Heap.Ns.new ..) fun b o e => pushCells_keeps _ _ _ _ e
  · obtain ⟨e2, hne⟩ := wipe_some e2
    have hfr : scope.names.lookup y = some .free ∧ (cenv.kindOf y = some .cell ∨ cenv.kindOf y = some .free) := by
      have key : ∀ k, cenv.scope.names.lookup y = some k → k = .local ∨ k = .cell ∨ k = .free → scope.names.lookup y = some .free ∧ (cenv.kindOf y = some .cell ∨ cenv.kindOf y = some .free) := fun k hk hk' => by
        have hk0 := hk
        rw [hsc] at hk
        obtain ⟨k', e, r⟩ := lookup_relS hk
        have no : ¬ (k' = .local ∨ k' = .cell) := fun hh => by
          rcases ok.own _ (PySem.mem_of_lookup e) hh with e' | e'
          · obtain ⟨p, hp, hpy⟩ := List.mem_map.mp e'
            have e3 := ok.ix p hp
            have : p.1 = y := hpy
            rw [this] at e3
            exact hne (List.mem_map.mpr ⟨p, hp, nodup_ix hN e3 e1⟩)
          · exact e' (List.mem_of_getElem? e1)
        rcases r with rfl | ⟨rfl, rfl⟩
        · rcases hk' with rfl | rfl | rfl
          · exact absurd (.inl rfl) no
          · exact absurd (.inr rfl) no
          · exact ⟨e, .inr hk0⟩
        · exact ⟨e, .inl hk0⟩
      have e3 : Vis cenv.scope y := e3
      rcases e3 with e3 | e3 | e3
      · exact key _ e3 (.inl rfl)
      · exact key _ e3 (.inr (.inl rfl))
      · exact key _ e3 (.inr (.inr rfl))
    obtain ⟨m, hn, hl⟩ := I.loc
    have hvis : Vis X.env.scope y := (ok.free _ (PySem.mem_of_lookup hfr.1) rfl).elim (fun k => .inr (.inl k)) (fun k => .inr (.inr k))
    obtain ⟨w, r, q⟩ := hl i y av e1 e2 hvis
    refine ⟨w, r, .inr ⟨hfr.2, ?_⟩⟩
    obtain ⟨c, h1, h2⟩ := look hfr.1
    rcases q with ⟨k, _⟩ | ⟨_, c', e', z⟩
    · have k : X.env.scope.names.lookup y = some .local := k
      rcases ok.free _ (PySem.mem_of_lookup hfr.1) rfl with k' | k' <;> rw [show X.env.scope.names.lookup y = _ from k'] at k <;> cases k
    · rw [h2] at e'; cases e'
      exact ⟨c, h1, z.keeps kp⟩
  · have e : cenv.cells.lookup y = some c := e
    rcases mem e with ⟨h1, _⟩ | ⟨_, z⟩
    · obtain ⟨w, z⟩ := I.cell y c h1
      exact ⟨w, z.keeps kp⟩
    · exact ⟨_, z⟩
  · show H cenv.locals = none
    rw [hL]; exact I.hok.fresh (Nat.le_refl _)
  · have e : cenv.cells.lookup y = some c := e
    rcases mem e with ⟨h1, _⟩ | ⟨h1, _⟩
    · exact I.freeC y c h1
    · exact I.hok.fresh (Nat.le_of_succ_le h1)
  · exact absurd (show p ∈ ([] : List (Addr × Obj)) ++ [] from hp) (by simp)

/-- an item appended to a tracked list -/
theorem app_ok {E : Value → Shared → Prop} {D : Addr} {xs : List V} {y : V} {v : Value} {Q : Value → Shared → Prop} (I : Inv X pins σ H s) (hD : H D = some (.lst xs)) (hz : xs.length < sizeLine) (r : RelV y v)
    (h : ∀ s', Inv X pins σ (upd H D (.lst (xs ++ [y]))) s' → Q .none s') : wpAny (model X.prog X.w) X.A (call (.builtin "list.append") [.ref D, v]) Q E s := by
  obtain ⟨hz', its, n, ri, e⟩ := I.hok D _ hD
  have hl := ri.length
  refine append_at (hsz := by rw [List.size_toArray]; omega) e fun h' sb ho' => ?_
  refine h { s with heap := h' } (I.write (t' := s.toks) (by rw [hD]; trivial) (.inl rfl) (fun b u hb q => (sb.2 b hb).trans q) ⟨_, ho'⟩ ⟨by rw [List.length_append]; exact hz, its ++ [v], n + 1, ri.append (.cons r .nil), ?_⟩)
  rw [ho']
  simp

/-- a clause's tests -/
noncomputable def PTs (X : Cx) (ifs : List Expr) (t : TT) : Prop :=
  ∀ (pins : List (Addr × Obj)) (s : Shared) (σ : St) (H : Hp) (Q : Bool → Hp → Prop), Inv X pins σ H s → t σ H Q →
    wpAny (model X.prog X.w) X.A (forIn ifs true fun c r => if r = true then do let ok ← isTrue c X.env (eval c X.env); pure (ForInStep.yield ok) else pure (ForInStep.yield r)) (TP X pins σ Q) X.xe s
noncomputable def tYes : TT := fun _ H Q => Q true H
theorem pts_nil : PTs X [] tYes := fun _ _ _ H _ I h => wpAny_tests_nil ⟨H, I, h⟩
theorem pts_one {c : Expr} {t : TT} (h : PT X c t) : PTs X [c] t := fun pins s σ H Q I hw => wpAny_tests_one (h pins s σ H Q I hw)
end

theorem thnF {α : Type} {t : Sem α} {Q Q' : α → Shared → Prop} {M : Model} {A : Around} {E : Value → Shared → Prop} {s : Shared} (h : wpAny M A t Q (fun _ _ => False) s) (hQ : ∀ a s, Q a s → Q' a s) : wpAny M A t Q' E s := wpAny_mono h hQ fun _ _ z => False.elim z

/-- the loop of a list comprehension's block, the target of any form (codeAny_compLoop_tests asks a target that no tuple goes to; statement and proof follow it, PyProof/CompMap.lean:41-61, with the step letOwnedTupleGo kept) -/
theorem compLoop_any {prog : Program} {w : World} {A : Around} {R : Result → Shared → Prop} {s : Shared} {elt target iter : Expr} {ifs : List Expr} {scope : Scope} {pos : Pos} {it acc : Value} {env : Env} (I : Nat → Shared → Prop)
    (turn : ∀ n s, I n s → wpAny (model prog w) A (pyNext it) (fun r s₁ => match r with
      | none => R (.ok .next) s₁
      | some v => wpAny (model prog w) A (letOwnedTupleGo target it v) (fun _ s₁' => wpAny (model prog w) A (assign target env v) (fun _ s₂ =>
          wpAny (model prog w) A (forIn ifs true fun c r => if r = true then do let ok ← isTrue c env (eval c env); pure (ForInStep.yield ok) else pure (ForInStep.yield r)) (fun ok s₃ =>
            if ok = true then wpAny (model prog w) A (eval elt env) (fun x s₄ =>
              wpAny (model prog w) A (call (.builtin "list.append") [acc, x]) (fun _ s₅ => ∃ m, m < n ∧ I m s₅) (notedBy (model prog w) A env fun e s' => R (.error e) s') s₄) (notedBy (model prog w) A env fun e s' => R (.error e) s') s₃
            else ∃ m, m < n ∧ I m s₃) (notedBy (model prog w) A env fun e s' => R (.error e) s') s₂) (notedBy (model prog w) A env fun e s' => R (.error e) s') s₁') (notedBy (model prog w) A env fun e s' => R (.error e) s') s₁) (notedBy (model prog w) A env fun e s' => R (.error e) s') s)
    (n : Nat) (h : I n s) :
    codeAny (model prog w) A (.compLoop (.ListComp elt [⟨target, iter, ifs, 0⟩] scope pos) 0 it acc env) R s := by
  refine codeAny_loop rfl I (fun n s hI => ?_) n h
  show wpAny _ A ((compTurn (.ListComp elt [⟨target, iter, ifs, 0⟩] scope pos) 0 it acc env).onRaise (fun x => do noteFrame x env; theTreesLotGoes x)) _ _ s
  refine wpAny_noted ?_
  rw [compTurn_list]
  refine wpAny_bind (wpAny_standAt (wpAny_bind (wpAny_mono (turn n s hI) (fun r s₁ h₁ => ?_) fun _ _ h' => h')))
  cases r with
  | none => exact wpAny_pure h₁
  | some v =>
    refine wpAny_bind (wpAny_mono h₁ (fun _ s₁' h₁' => ?_) fun _ _ h' => h')
    refine wpAny_bind (wpAny_mono h₁' (fun _ s₂ h₂ => wpAny_bind (wpAny_mono h₂ (fun ok s₃ h₃ => ?_) fun _ _ h' => h')) fun _ _ h' => h')
    cases ok with
    | false => exact wpAny_pure ⟨rfl, h₃⟩
    | true =>
      exact wpAny_bind (wpAny_bind (wpAny_mono h₃ (fun x s₄ h₄ => wpAny_bind (wpAny_mono h₄ (fun _ s₅ h₅ => wpAny_pure (wpAny_pure ⟨rfl, h₅⟩)) fun _ _ h' => h')) fun _ _ h' => h'))

section
variable {X : Cx}
/-- [elt for target in iter if ..]: D the new list; W by the turn and a measure, Nx what a turn is to reach -/
noncomputable def tLc (wi : TI) (g : TG) (tt : TT) (te : TE) (vs : List Nat) : TE := fun σ H Q => wi σ H fun J H1 => ∀ D, H1 D = none → ∃ W : Nat → Nat → Hp → Prop, (∃ m, W 0 m (upd H1 D (.lst []))) ∧ ∀ i m H, W i m H →
  (J.stop i H ∧ Q (.ref D) H) ∨ (J.go i H ∧ ∃ Nx : Hp → Prop, (∀ H', Nx H' → ∃ m', m' < m ∧ W (i + 1) m' H') ∧ ∀ x H', J.yld i H x H' → g x (wipe σ vs) H' fun σ2 H2 => wipe σ2 vs = wipe σ vs ∧ tt σ2 H2 fun b H3 =>
    if b = true then te σ2 H3 fun y H4 => ∃ acc, H4 D = some (.lst acc) ∧ acc.length < sizeLine ∧ Nx (upd H4 D (.lst (acc ++ [y]))) else Nx H3)
theorem lc_core {pins : List (Addr × Obj)} {s : Shared} {σ : St} {H : Hp} {Q : VK} {elt tg iter : Expr} {ifs : List Expr} {scope : Scope} {own : List (Str × Nat)} {pos pos' : Pos} {wi : TI} {g : TG} {tt : TT} {te : TE} {use : Option (Value → Sem Unit)} {Qf : Value → Shared → Prop}
    (hc : X.calm = true) (hN : X.N.Nodup) (I : Inv X pins σ H s) (hi : PI X tg iter wi) (ok : BlkOk X.N X.env.scope scope own)
    (hg : ∀ (s : Shared) (H : Hp) (C : Addr) (cl : List (Str × Addr)) (fp : List Addr), PG (X.blk s H scope (compEnvC scope cl C X.env) fp) tg g) (ht : ∀ (s : Shared) (H : Hp) (C : Addr) (cl : List (Str × Addr)) (fp : List Addr), PTs (X.blk s H scope (compEnvC scope cl C X.env) fp) ifs tt)
    (he : ∀ (s : Shared) (H : Hp) (C : Addr) (cl : List (Str × Addr)) (fp : List Addr), PE (X.blk s H scope (compEnvC scope cl C X.env) fp) elt te) (hs : ∀ x, foldedSetIterable iter X.env x = pure x)
    (h : tLc wi g tt te (own.map (·.2)) σ H Q)
    (hRR : ∀ D C s' m H', Inv X pins σ H' s' → Q (.ref D) H' → s'.heap.Ns C m → FpOk X pins H' C → compPost (model X.prog X.w) X.A X.xe use Qf (.ref D) C (.ok .next) s') :
    wpAny (model X.prog X.w) X.A (comprehension (.ListComp elt [⟨tg, iter, ifs, 0⟩] scope pos) scope X.env pos' (newList []) false (eval iter X.env) use) Qf X.xe s := by
  have hfree : ∀ y ∈ scope.names, y.2 = .free → ∃ c, X.env.cells.lookup y.1 = some c := fun y hy e => by
    rcases ok.free y hy e with k | k
    · exact I.ok.has _ (.inl k)
    · exact I.ok.has _ (.inr k)
  refine wpAny_comprehension_free (use := use) rfl hs (closure_ok hfree) ok.kind (fun y hy e => by rw [ok.uniq y hy, e])
    (thn (hi pins s σ H _ I h) fun xv s1 hx => thn hx fun itv s2 h2 => ?_)
  obtain ⟨it, fp, tn, J, H2, e, I2, T, st2, f2, q⟩ := h2
  subst e
  refine wpAny_newObj_type (newEnv_comp ?_) (by show 0 ≤ sizeLine; decide)
  generalize hD : s2.heap.objs.size = D
  have hDn : H2 D = none := I2.hok.fresh (Nat.le_of_eq hD)
  obtain ⟨W, ⟨m0, w0⟩, turn⟩ := q D hDn
  -- the new list
  generalize hs3 : ({ s2 with heap := s2.heap.push { cls := .type "list", data := .seq ([] : List Value).toArray } } : Shared) = s3
  have I3 : Inv X pins σ (upd H2 D (.lst [])) s3 := by
    rw [← hs3]
    refine I2.laid (t' := s2.toks) (fun b o e => Heap.get?_push_of_some _ e) (Nat.le_of_eq hD) ⟨Nat.zero_le _, [], 0, .nil, ?_⟩
    rw [← hD]
    exact Heap.get?_push_size _ rfl
  have h3 : s3.heap = s2.heap.push { cls := .type "list", data := .seq ([] : List Value).toArray } := by rw [← hs3]
  have sz : ∀ b ∈ fp, b < s2.heap.objs.size := fun b hb => by
    obtain ⟨o, e, _⟩ := T.obj _ _ st2 b hb
    exact Heap.lt_size e
  have f3 : ∀ b ∈ fp, FpOk X pins (upd H2 D (.lst [])) b ∧ b < s3.heap.objs.size := fun b hb => by
    have hlt := sz b hb
    refine ⟨⟨?_, (f2 b hb).2⟩, by rw [h3, Heap.size_push]; exact Nat.lt_succ_of_lt hlt⟩
    rw [upd_ne (by rw [← hD]; exact Nat.ne_of_lt hlt)]
    exact (f2 b hb).1
  have st3 : tn 0 s3.heap := T.keep _ _ _ st2 fun b _ o e => by rw [h3]; exact Heap.get?_push_of_some _ e
  have I4 := block_start I3 ok hN f3
  have pg := hg s3 (upd H2 D (.lst [])) s3.heap.objs.size (cellsFrom (s3.heap.objs.size + 1) scope.names (cloFrom X.env.cells scope.names [])) fp
  have pt := ht s3 (upd H2 D (.lst [])) s3.heap.objs.size (cellsFrom (s3.heap.objs.size + 1) scope.names (cloFrom X.env.cells scope.names [])) fp
  have pe := he s3 (upd H2 D (.lst [])) s3.heap.objs.size (cellsFrom (s3.heap.objs.size + 1) scope.names (cloFrom X.env.cells scope.names [])) fp
  show codeAny _ _ (.compStart (.ListComp elt [⟨tg, iter, ifs, 0⟩] scope pos) 0 (.ref it) (.ref D) (compEnvC scope (cellsFrom (s3.heap.objs.size + 1) scope.names (cloFrom X.env.cells scope.names [])) s3.heap.objs.size X.env)) (compPost (model X.prog X.w) X.A X.xe use Qf (.ref D) s3.heap.objs.size) { s3 with heap := pushCells (s3.heap.push { cls := .type "dict", data := .dict #[] }) scope.names }
  have nfp : ∀ b ∈ fp, (upd H2 D (.lst [])) b = none := fun b hb => (f3 b hb).1.1
  generalize hce : compEnvC scope (cellsFrom (s3.heap.objs.size + 1) scope.names (cloFrom X.env.cells scope.names [])) s3.heap.objs.size X.env = ce at I4 pg pt pe ⊢
  have cL : ce.locals = s3.heap.objs.size := by subst hce; rfl
  generalize hH3 : upd H2 D (.lst []) = H3 at I3 I4 pg pt pe w0 nfp f3
  generalize hs4 : ({ s3 with heap := pushCells (s3.heap.push { cls := .type "dict", data := .dict #[] }) scope.names } : Shared) = s4 at I4 ⊢
  have st4 : tn 0 s4.heap := T.keep _ _ _ st3 fun b _ o e => by rw [← hs4]; exact pushCells_keeps _ _ _ _ (Heap.get?_push_of_some _ e)
  have stat : ∀ {σ' : St} {H' : Hp} {s' : Shared}, Inv (X.blk s3 H3 scope ce fp) [] σ' H' s' → (∀ b ∈ fp, H' b = none) → ∀ b ∈ fp, FpOk (X.blk s3 H3 scope ce fp) [] H' b := fun {σ' H' s'} I' hn b hb =>
    ⟨hn b hb, (I'.ok.exf b hb).1, I'.ok.exfs b hb, .inl hb, fun x c e => (I'.ok.exf b hb).2 x c e, fun p hp => absurd (show p ∈ ([] : List (Addr × Obj)) ++ [] from hp) (by simp)⟩
  have loop : codeAny (model X.prog X.w) X.A (.compLoop (.ListComp elt [⟨tg, iter, ifs, 0⟩] scope pos) 0 (.ref it) (.ref D) ce) (compPost (model X.prog X.w) X.A X.xe use Qf (.ref D) s3.heap.objs.size) s4 := by
    refine compLoop_any (fun n s' => ∃ i H', Inv (X.blk s3 H3 scope ce fp) [] (wipe σ (own.map (·.2))) H' s' ∧ tn i s'.heap ∧ (∀ b ∈ fp, H' b = none) ∧ W i n H') ?_ m0 ⟨0, H3, I4, st4, nfp, w0⟩
    rintro n s5 ⟨i, H5, I5, st5, n5, w5⟩
    rcases turn i n H5 w5 with ⟨stop, qq⟩ | ⟨go, Nx, hNx, step⟩
    · have td := T.done (X.blk s3 H3 scope ce fp) rfl rfl rfl hc i [] s5 _ H5 (fun _ _ => False) I5 (stat I5 n5) st5 stop
      refine thnF td fun r s6 ⟨hr, I6⟩ => ?_
      subst hr
      -- back in the def's context
      have I7 : Inv X pins σ H5 s6 := I3.call' (ch := fp) I6.os I6.base I6.hok I6.bare fun b hb => ⟨(f3 b hb).1.2.2.2.1, (f3 b hb).1.2.1, (f3 b hb).1.2.2.2.2.1, (f3 b hb).1.2.2.2.2.2⟩
      have nC : H5 s3.heap.objs.size = none := by
        have z : H5 ce.locals = none := I6.free
        rw [cL] at z
        exact z
      obtain ⟨m, hn, _⟩ := I6.loc
      have hn : s6.heap.Ns ce.locals m := hn
      rw [cL] at hn
      exact hRR D s3.heap.objs.size s6 m H5 I7 qq hn (I3.fpOk (Nat.le_refl _) nC)
    · have ti := T.item (X.blk s3 H3 scope ce fp) rfl rfl rfl hc i [] s5 _ H5 (fun _ _ => False) I5 (stat I5 n5) st5 go
      refine thnF ti fun r s6 ⟨u, hr, h6⟩ => ?_
      subst hr
      refine thnF h6 fun _ s7 ⟨x, H7, I7, r7, y7, st7, n7⟩ => ?_
      have I7' := I7.pinned (stat I7 n7) (T.obj _ _ st7)
      refine thnF (pg _ s7 _ H7 x u _ I7' r7 (step x H7 y7)) fun _ s8 ⟨σ8, H8, I8, hw8, q8⟩ => ?_
      refine thnF (pt _ s8 σ8 H8 _ I8 q8) fun b s9 ⟨H9, I9, q9⟩ => ?_
      -- the turn's end
      have fin : ∀ {s' : Shared} {H' : Hp}, Inv (X.blk s3 H3 scope ce fp) ([] ++ pinsAt fp s7.heap) σ8 H' s' → Nx H' → ∃ m, m < n ∧ ∃ i H', Inv (X.blk s3 H3 scope ce fp) [] (wipe σ (own.map (·.2))) H' s' ∧ tn i s'.heap ∧ (∀ b ∈ fp, H' b = none) ∧ W i m H' := fun {s' H'} I' nx => by
        obtain ⟨m', hm, w'⟩ := hNx H' nx
        have pin' : ∀ b ∈ fp, ∀ o, s7.heap.get? b = some o → s'.heap.get? b = some o ∧ H' b = none := fun b hb o e =>
          let z := I'.pin (b, o) (List.mem_append_right _ (List.mem_append_right _ (mem_pinsAt hb e)))
          ⟨z.1, z.2.1⟩
        have hl : (wipe σ (own.map (·.2))).length = σ8.length := by rw [← hw8, wipe_length]
        refine ⟨m', hm, i + 1, H', (I'.unpinned (pins := [])).weak hl (fun j v e => ?_), T.keep _ _ _ st7 fun b hb o e => (pin' b hb o e).1, fun b hb => ?_, w'⟩
        · rw [← hw8] at e
          exact (wipe_some e).1
        · obtain ⟨o, e, _⟩ := T.obj _ _ st7 b hb
          exact (pin' b hb o e).2
      cases b with
      | false =>
        simp only [Bool.false_eq_true, if_false] at q9 ⊢
        exact fin I9 q9
      | true =>
        simp only [if_true] at q9 ⊢
        refine thnF (pe _ s9 σ8 H9 _ I9 q9) fun z s10 ⟨yv, H10, I10, r10, acc, hD10, hz10, nx⟩ => ?_
        exact app_ok (X := X.blk s3 H3 scope ce fp) I10 hD10 hz10 r10 fun s11 I11 => fin I11 nx
  exact codeAny_compStart_list loop (T.self X.A 0 _ _ _ st4 loop)
/-- name = [..] on one line, the name a local -/
theorem ps_setLc {i : Nat} {y : Str} {py : Pos} {elt tg iter : Expr} {ifs : List Expr} {scope : Scope} {own : List (Str × Nat)} {pos spos : Pos} {wi : TI} {g : TG} {tt : TT} {te : TE} (hc : X.calm = true) (hN : X.N.Nodup) (hy : X.N[i]? = some y) (hyl : X.env.scope.names.lookup y = some .local)
    (hsw : swapsWith (.ListComp elt [⟨tg, iter, ifs, 0⟩] scope pos) (some (.Name y py)) spos.line X.env = pure true) (hi : PI X tg iter wi) (ok : BlkOk X.N X.env.scope scope own)
    (hg : ∀ (s : Shared) (H : Hp) (C : Addr) (cl : List (Str × Addr)) (fp : List Addr), PG (X.blk s H scope (compEnvC scope cl C X.env) fp) tg g) (ht : ∀ (s : Shared) (H : Hp) (C : Addr) (cl : List (Str × Addr)) (fp : List Addr), PTs (X.blk s H scope (compEnvC scope cl C X.env) fp) ifs tt)
    (he : ∀ (s : Shared) (H : Hp) (C : Addr) (cl : List (Str × Addr)) (fp : List Addr), PE (X.blk s H scope (compEnvC scope cl C X.env) fp) elt te) (hs : ∀ x, foldedSetIterable iter X.env x = pure x := by intro _; rfl) :
    PS X (.Assign [.Name y py] (.ListComp elt [⟨tg, iter, ifs, 0⟩] scope pos) spos) (tAsg (tLc wi g tt te (own.map (·.2))) (gName i)) := by
  intro pins s σ H D I h
  rw [exec_Assign_Name_used _ _ _ _ hsw]
  refine wpAny_bind (wpAny_standAt (wpAny_bind ?_))
  show wpAny _ X.A (do let _ ← comprehension (.ListComp elt [⟨tg, iter, ifs, 0⟩] scope pos) scope X.env (firstIterPos [⟨tg, iter, ifs, 0⟩] pos) (newList []) false (eval iter X.env) (some (assign (.Name y py) X.env))) _ _ s
  have h : tLc wi g tt te (own.map (·.2)) σ H (fun x H1 => gName i x σ H1 D.nx) := h
  refine wpAny_bind (thn (lc_core (Qf := fun _ s' => SP X pins D .next s') hc hN I hi ok hg ht he hs h fun L C s' m H' I' q hn f => ?_) fun _ s' hq => wpAny_pure (wpAny_pure hq))
  show wpAny _ _ (assign (.Name y py) X.env (.ref L)) _ _ _
  refine wpAny_assign_Name (store_ok2 (v := V.ref L) I' hN hy (.inl hyl) rfl (fun s2 I2 ⟨a, sb, ha⟩ => ?_) (.inr hyl))
  obtain ⟨f0, f1, f2, f3, f4, f5⟩ := f
  have haC : C ≠ a := by
    rcases ha with z | z
    · rw [z]; exact f1
    · exact fun e => f4 y a z e.symm
  refine ⟨m, hn.sameBut sb haC, fun h3 sb3 => ?_⟩
  exact ⟨_, H', I2.turned (t' := s2.toks) (fun b o hb e => (sb3.2 b hb).trans e) f0 f1 f3 f4 f5, q⟩
end

/-! ### the forms one uses -/
/-- over a range: Pv by the turn and the heap (the new list at D within) -/
theorem lc_range {lo : Int} {n : Nat} {g : TG} {tt : TT} {te : TE} {vs : List Nat} {σ : St} {H1 : Hp} {D : Addr} {Qd : Hp → Prop} (Pv : Nat → Hp → Prop) (h0 : Pv 0 (upd H1 D (.lst [])))
    (hs : ∀ i H, i < n → Pv i H → g (.int (lo + i)) (wipe σ vs) H fun σ2 H2 => wipe σ2 vs = wipe σ vs ∧ tt σ2 H2 fun b H3 =>
      if b = true then te σ2 H3 fun y H4 => ∃ acc, H4 D = some (.lst acc) ∧ acc.length < sizeLine ∧ Pv (i + 1) (upd H4 D (.lst (acc ++ [y]))) else Pv (i + 1) H3) (hd : ∀ H, Pv n H → Qd H) :
    ∃ W : Nat → Nat → Hp → Prop, (∃ m, W 0 m (upd H1 D (.lst []))) ∧ ∀ i m H, W i m H →
      ((Itr lo n).stop i H ∧ Qd H) ∨ ((Itr lo n).go i H ∧ ∃ Nx : Hp → Prop, (∀ H', Nx H' → ∃ m', m' < m ∧ W (i + 1) m' H') ∧ ∀ x H', (Itr lo n).yld i H x H' → g x (wipe σ vs) H' fun σ2 H2 => wipe σ2 vs = wipe σ vs ∧ tt σ2 H2 fun b H3 =>
        if b = true then te σ2 H3 fun y H4 => ∃ acc, H4 D = some (.lst acc) ∧ acc.length < sizeLine ∧ Nx (upd H4 D (.lst (acc ++ [y]))) else Nx H3) := by
  refine ⟨fun i m H => m = n - i ∧ i ≤ n ∧ Pv i H, ⟨n, by simp, Nat.zero_le _, h0⟩, ?_⟩
  rintro i m H ⟨rfl, hi, p⟩
  by_cases hlt : i < n
  · refine .inr ⟨hlt, Pv (i + 1), fun H' p' => ⟨n - (i + 1), by omega, rfl, hlt, p'⟩, fun x H' y => ?_⟩
    obtain ⟨e, y⟩ := y
    subst e y
    exact hs i _ hlt p
  · have e : i = n := by omega
    subst e
    exact .inl ⟨Nat.le_refl _, hd H p⟩
noncomputable def blkC (N : List Str) (sc scope : Scope) (own : List (Str × Nat)) : Bool :=
  (match scope.kind with | .function => true | _ => false) && (scope.names.all fun y => decide (scope.names.lookup y.1 = some y.2)) && (own.all fun p => decide (N[p.2]? = some p.1)) &&
    (scope.names.all fun y => match y.2 with
      | .free => (match sc.names.lookup y.1 with | some .cell => true | some .free => true | _ => false)
      | .local => decide (y.1 ∈ own.map (·.1)) || decide (y.1 ∉ N)
      | .cell => decide (y.1 ∈ own.map (·.1)) || decide (y.1 ∉ N)
      | _ => true)
theorem blkOk_by {N : List Str} {sc scope : Scope} {own : List (Str × Nat)} (h : blkC N sc scope own = true) : BlkOk N sc scope own := by
  unfold blkC at h
  simp only [Bool.and_eq_true, List.all_eq_true, decide_eq_true_eq] at h
  obtain ⟨⟨⟨h1, h2⟩, h3⟩, h4⟩ := h
  refine ⟨?_, h2, h3, fun y hy e => ?_, fun y hy e => ?_⟩
  · split at h1
    · assumption
    · cases h1
  · have q := h4 y hy
    simp only [e] at q
    split at q <;> first | exact .inl (by assumption) | exact .inr (by assumption) | cases q
  · have q := h4 y hy
    rcases e with e | e <;> (simp only [e, Bool.or_eq_true, decide_eq_true_eq] at q; exact q)
end L2

namespace L2
open PySem PySem.Spec PyProof.Rows

section
variable {prog : Program} {w : World} {A : Around} {R : Result → Shared → Prop} {s : Shared} {elt t0 i0 t1 i1 : Expr} {ifs0 ifs1 : List Expr} {scope : Scope} {pos : Pos} {it acc : Value} {env : Env}
end

section
variable {X : Cx}
end
end L2

namespace L2
open PySem PySem.Spec PyProof.Rows

/-! ### lists of pairs as tables -/
section
variable {κ : Type} [DecidableEq κ]
noncomputable def valV (kvs : List (κ × V)) (k : κ) : Option V := (kvs.find? fun kv => decide (kv.1 = k)).map (·.2)
/-- in its place, or at the end -/
noncomputable def putK (kvs : List (κ × V)) (k : κ) (v : V) : List (κ × V) :=
  if (kvs.any fun kv => decide (kv.1 = k)) = true then kvs.map (fun kv => if kv.1 = k then (kv.1, v) else kv) else kvs ++ [(k, v)]
theorem valV_pos {p : κ × V} {r : List (κ × V)} {k : κ} (e : p.1 = k) : valV (p :: r) k = some p.2 := by simp [valV, List.find?_cons, e]
theorem valV_neg {p : κ × V} {r : List (κ × V)} {k : κ} (e : ¬ p.1 = k) : valV (p :: r) k = valV r k := by simp [valV, List.find?_cons, e]
theorem valV_any (k : κ) : ∀ kvs : List (κ × V), (kvs.any fun kv => decide (kv.1 = k)) = (valV kvs k).isSome
  | [] => rfl
  | p :: r => by
    rw [List.any_cons]
    by_cases e : p.1 = k
    · simp only [valV_pos e, decide_eq_true e, Bool.true_or, Option.isSome_some]
    · rw [valV_neg e, decide_eq_false e, Bool.false_or]; exact valV_any k r
theorem valV_map (k j : κ) (y : V) : ∀ kvs : List (κ × V), valV (kvs.map fun kv => if kv.1 = k then (kv.1, y) else kv) j = (valV kvs j).map fun x => if j = k then y else x
  | [] => rfl
  | p :: r => by
    have ih := valV_map k j y r
    rw [List.map_cons]
    by_cases h : p.1 = k
    · rw [if_pos h]
      by_cases e : p.1 = j
      · rw [valV_pos (p := (p.1, y)) e, valV_pos e, Option.map_some, if_pos (e.symm.trans h)]
      · rw [valV_neg (p := (p.1, y)) e, valV_neg e, ih]
    · rw [if_neg h]
      by_cases e : p.1 = j
      · rw [valV_pos (p := p) e, valV_pos e, Option.map_some, if_neg (fun z => h (e.trans z))]
      · rw [valV_neg (p := p) e, valV_neg e, ih]
theorem valV_snoc (k j : κ) (y : V) : ∀ kvs : List (κ × V), valV kvs k = none → valV (kvs ++ [(k, y)]) j = if j = k then some y else valV kvs j
  | [], _ => by
    by_cases e : k = j
    · rw [if_pos e.symm]; exact valV_pos (p := (k, y)) e
    · rw [if_neg (fun z => e z.symm)]; exact valV_neg (p := (k, y)) e
  | p :: r, hn => by
    rw [List.cons_append]
    have hk : ¬ p.1 = k := fun z => by rw [valV_pos z] at hn; cases hn
    rw [valV_neg hk] at hn
    have ih := valV_snoc k j y r hn
    by_cases e : p.1 = j
    · rw [valV_pos e, valV_pos e, if_neg (fun z => hk (e.trans z))]
    · rw [valV_neg e, valV_neg e, ih]
theorem valV_put (kvs : List (κ × V)) (k j : κ) (y : V) : valV (putK kvs k y) j = if j = k then some y else valV kvs j := by
  unfold putK
  by_cases a : (kvs.any fun kv => decide (kv.1 = k)) = true
  · rw [if_pos a, valV_map]
    rw [valV_any] at a
    by_cases e : j = k
    · obtain ⟨x, hx⟩ := Option.isSome_iff_exists.mp a
      rw [if_pos e, e, hx, Option.map_some, if_pos rfl]
    · rw [if_neg e]
      cases valV kvs j with
      | none => rfl
      | some x => rw [Option.map_some, if_neg e]
  · rw [if_neg a]
    refine valV_snoc k j y kvs ?_
    rw [valV_any] at a
    cases q : valV kvs k with
    | none => rfl
    | some x => rw [q] at a; exact (a rfl).elim
theorem length_putK (kvs : List (κ × V)) (k : κ) (v : V) : (putK kvs k v).length ≤ kvs.length + 1 := by
  unfold putK
  split
  · rw [List.length_map]; omega
  · rw [List.length_append, List.length_cons, List.length_nil]; omega
theorem putK_new {kvs : List (κ × V)} {k : κ} (v : V) (h : valV kvs k = none) : putK kvs k v = kvs ++ [(k, v)] := by
  unfold putK
  rw [valV_any, h]
  exact if_neg (by decide)

theorem RelO.isSome_eq {o : Option V} {u : Option Value} (r : RelO o u) : o.isSome = u.isSome := by
  cases o with
  | none => cases u with
    | none => rfl
    | some _ => exact (show False from r).elim
  | some _ => cases u with
    | none => exact (show False from r).elim
    | some _ => rfl
/-- raw tables of the same keys -/
theorem KV.val {kvs : List (κ × V)} {vs : List (κ × Value)} (r : KV kvs vs) (k : κ) : RelO (valV kvs k) (valueAt vs k) := by
  unfold KV at r
  induction r with
  | nil => exact True.intro
  | @cons p q ps qs h t ih =>
    obtain ⟨h1, h2⟩ := h
    by_cases e : p.1 = k
    · have e' : q.1 = k := h1.symm.trans e
      have b : valueAt (q :: qs) k = some q.2 := by simp [valueAt, List.find?_cons, e']
      rw [valV_pos e, b]; exact h2
    · have e' : ¬ q.1 = k := fun z => e (h1.trans z)
      have b : valueAt (q :: qs) k = valueAt qs k := by simp [valueAt, List.find?_cons, e']
      rw [valV_neg e, b]; exact ih
theorem KV.any {kvs : List (κ × V)} {vs : List (κ × Value)} (r : KV kvs vs) (k : κ) : (kvs.any fun kv => decide (kv.1 = k)) = vs.any fun kv => decide (kv.1 = k) := by
  unfold KV at r
  induction r with
  | nil => rfl
  | cons h t ih => rw [List.any_cons, List.any_cons, ih, h.1]
theorem KV.repl {kvs : List (κ × V)} {vs : List (κ × Value)} (r : KV kvs vs) (k : κ) {y : V} {u : Value} (ry : RelV y u) :
    KV (kvs.map fun kv => if kv.1 = k then (kv.1, y) else kv) (vs.map fun kv => if kv.1 = k then (kv.1, u) else kv) := by
  unfold KV at r ⊢
  induction r with
  | nil => exact .nil
  | @cons p q ps qs h t ih =>
    rw [List.map_cons, List.map_cons]
    refine .cons ?_ ih
    obtain ⟨h1, h2⟩ := h
    by_cases e : p.1 = k
    · rw [if_pos e, if_pos (h1.symm.trans e)]; exact ⟨h1, ry⟩
    · rw [if_neg e, if_neg (fun z => e (h1.trans z))]; exact ⟨h1, h2⟩
theorem KV.put {kvs : List (κ × V)} {vs : List (κ × Value)} (r : KV kvs vs) (k : κ) {y : V} {u : Value} (ry : RelV y u) : KV (putK kvs k y) (stored vs k u) := by
  unfold putK stored
  rw [r.any k]
  by_cases e : (vs.any fun kv => decide (kv.1 = k)) = true
  · rw [if_pos e, if_pos e]; exact r.repl k ry
  · rw [if_neg e, if_neg e]; exact Paired.snoc r ⟨rfl, ry⟩
theorem KV.length {kvs : List (κ × V)} {vs : List (κ × Value)} (r : KV kvs vs) : kvs.length = vs.length := Paired.length r
end


/-! ### a tracked dict, its keys ints and texts or tuples of these -/
theorem kV_is {P : Program} {w : World} {k : Key} {u : Value} (r : RelV (kV k) u) : (mixKind P w).is k u = true := by
  cases k with
  | inl i => obtain ⟨t, e⟩ := (show ∃ t, u = Value.int i t from r); subst e; exact mixKind_int P w i t
  | inr x => obtain ⟨t, e⟩ := (show ∃ t, u = Value.str x t from r); subst e; exact mixKind_str P w x t
theorem items_are {P : Program} {w : World} : ∀ {ks : List Key} {us : List Value}, Vals (ks.map kV) us → ItemsAre (mixKind P w) ks us
  | [], _, r => by rw [List.map_nil] at r; cases r; exact .nil
  | k :: ks, _, r => by
    rw [List.map_cons] at r
    cases r with
    | cons h t => exact .cons (kV_is h) (items_are t)

/-- raw entries of a dict with tuple keys -/
noncomputable abbrev KT (H : Hp) : List (List Key × V) → List (List Key × Addr × Value) → Prop := Paired fun p q => p.1 = q.1 ∧ H q.2.1 = some (.tup (p.1.map kV)) ∧ RelV p.2 q.2.2
theorem KT.val {H : Hp} {kvs : List (List Key × V)} {xs : List (List Key × Addr × Value)} (r : KT H kvs xs) (k : List Key) : RelO (valV kvs k) ((atKey xs k).map (·.2)) := by
  induction r with
  | nil => exact True.intro
  | @cons p q ps qs h t ih =>
    obtain ⟨h1, _, h2⟩ := h
    by_cases e : p.1 = k
    · have e' : q.1 = k := h1.symm.trans e
      have b : atKey (q :: qs) k = some q.2 := by simp [atKey, List.find?_cons, e']
      rw [valV_pos e, b]; exact h2
    · have e' : ¬ q.1 = k := fun z => e (h1.trans z)
      have b : atKey (q :: qs) k = atKey qs k := by simp [atKey, List.find?_cons, e']
      rw [valV_neg e, b]; exact ih
theorem KT.repl {H : Hp} {kvs : List (List Key × V)} {xs : List (List Key × Addr × Value)} (r : KT H kvs xs) (k : List Key) {y : V} {u : Value} (ry : RelV y u) :
    KT H (kvs.map fun kv => if kv.1 = k then (kv.1, y) else kv) (xs.map (putAt k u)) := by
  induction r with
  | nil => exact .nil
  | @cons p q ps qs h t ih =>
    rw [List.map_cons, List.map_cons]
    refine .cons ?_ ih
    obtain ⟨h1, h2, h3⟩ := h
    unfold putAt
    by_cases e : p.1 = k
    · rw [if_pos e, if_pos (h1.symm.trans e)]; exact ⟨h1, h2, ry⟩
    · rw [if_neg e, if_neg (fun z => e (h1.trans z))]; exact ⟨h1, h2, h3⟩
theorem KT.put {H : Hp} {kvs : List (List Key × V)} {xs : List (List Key × Addr × Value)} (r : KT H kvs xs) (k : List Key) {b : Addr} {y : V} {u : Value} (hb : H b = some (.tup (k.map kV))) (ry : RelV y u) :
    KT H (putK kvs k y) (storedH xs k b u) := by
  have e : (kvs.any fun kv => decide (kv.1 = k)) = (atKey xs k).isSome := by
    rw [valV_any, (r.val k).isSome_eq, Option.isSome_map]
  unfold putK storedH
  rw [e]
  by_cases q : (atKey xs k).isSome = true
  · rw [if_pos q, if_pos q]; exact r.repl k ry
  · rw [if_neg q, if_neg q]; exact Paired.snoc r ⟨rfl, hb, ry⟩
theorem KT.keeps {H H' : Hp} {kvs : List (List Key × V)} {xs : List (List Key × Addr × Value)} (r : KT H kvs xs) (ht : ∀ b ys, H b = some (.tup ys) → H' b = some (.tup ys)) : KT H' kvs xs :=
  Paired.mapP r fun _ _ z => ⟨z.1, ht _ _ z.2.1, z.2.2⟩

section
variable {P : Program} {w : World} {H : Hp} {h : Heap} {a : Addr}
theorem rd_of {u : HO} (ok : HOk P w H h) (e : Rd H a u) : ObjOk P w H h a u := e.ok ok
theorem dk_rd {kvs : List (Key × V)} (ok : HOk P w H h) (e : Rd H a (.dK kvs)) : kvs.length ≤ sizeLine ∧ (a == sysModules) = false ∧ ∃ vs, KV kvs vs ∧ h.DictOf (mixKind P w) a vs :=
  show ObjOk P w H h a (.dK kvs) from rd_of ok e
theorem dk_of {kvs : List (Key × V)} (ok : HOk P w H h) (e : H a = some (.dK kvs)) : kvs.length ≤ sizeLine ∧ (a == sysModules) = false ∧ ∃ vs, KV kvs vs ∧ h.DictOf (mixKind P w) a vs := dk_rd ok (.inl e)
/-- a tracked tuple of ints and texts is a key -/
theorem key_of {ks : List Key} (ok : HOk P w H h) (e : H a = some (.tup (ks.map kV))) : (tupleKind (mixKind P w)).is h ks a := by
  obtain ⟨_, its, r, o, h1, h2, n, h3⟩ := (show ObjOk P w H h a (.tup (ks.map kV)) from ok a _ e)
  exact ⟨o, its.toArray, n, h1, h2, h3, by simpa using items_are r⟩
theorem dt_rd {kvs : List (List Key × V)} (ok : HOk P w H h) (e : Rd H a (.dT kvs)) : kvs.length ≤ sizeLine ∧ (a == sysModules) = false ∧
    ∃ xs, KT H kvs xs ∧ h.DictOfH (tupleKind (mixKind P w)) a xs := by
  obtain ⟨z, y, xs, r, o, es, ep, h1, h2, h3, h4, h5⟩ := (show ObjOk P w H h a (.dT kvs) from rd_of ok e)
  refine ⟨z, y, xs, r, o, es, ep, h1, h2, h3, h4, fun x hx => ?_, h5⟩
  have all : ∀ {l : List (List Key × V)} {m : List (List Key × Addr × Value)}, KT H l m → ∀ x ∈ m, (tupleKind (mixKind P w)).is h x.1 x.2.1 := by
    intro l m q
    induction q with
    | nil => intro x hx; exact nomatch hx
    | @cons p q ps qs hq t ih =>
      intro x hx
      rcases List.mem_cons.mp hx with e | hx
      · subst e
        exact key_of ok (by rw [← hq.1]; exact hq.2.1)
      · exact ih x hx
  exact all r x hx
theorem dt_of {kvs : List (List Key × V)} (ok : HOk P w H h) (e : H a = some (.dT kvs)) : kvs.length ≤ sizeLine ∧ (a == sysModules) = false ∧
    ∃ xs, KT H kvs xs ∧ h.DictOfH (tupleKind (mixKind P w)) a xs := dt_rd ok (.inl e)
end

/-- what the dict at a holds at the key y -/
noncomputable def DGet (H : Hp) (a : Addr) (y : V) (r : Option V) : Prop :=
  (∃ kvs k, Rd H a (.dK kvs) ∧ y = kV k ∧ r = valV kvs k) ∨ ∃ kvs k b, Rd H a (.dT kvs) ∧ y = .ref b ∧ H b = some (.tup (k.map kV)) ∧ r = valV kvs k
/-- the heap behind a[y] = v -/
noncomputable def DPut (H : Hp) (a : Addr) (y v : V) (H' : Hp) : Prop :=
  (∃ kvs k, H a = some (.dK kvs) ∧ y = kV k ∧ kvs.length < sizeLine ∧ H' = upd H a (.dK (putK kvs k v))) ∨
  ∃ kvs k b, H a = some (.dT kvs) ∧ y = .ref b ∧ H b = some (.tup (k.map kV)) ∧ kvs.length < sizeLine ∧ H' = upd H a (.dT (putK kvs k v))
theorem DGet.k {H : Hp} {a : Addr} {kvs : List (Key × V)} {k : Key} (e : H a = some (.dK kvs)) : DGet H a (kV k) (valV kvs k) := .inl ⟨kvs, k, .inl e, rfl, rfl⟩
theorem DGet.t {H : Hp} {a b : Addr} {kvs : List (List Key × V)} {k : List Key} (e : H a = some (.dT kvs)) (eb : H b = some (.tup (k.map kV))) : DGet H a (.ref b) (valV kvs k) := .inr ⟨kvs, k, b, .inl e, rfl, eb, rfl⟩
theorem DPut.k {H : Hp} {a : Addr} {kvs : List (Key × V)} {k : Key} {v : V} (e : H a = some (.dK kvs)) (hl : kvs.length < sizeLine) : DPut H a (kV k) v (upd H a (.dK (putK kvs k v))) := .inl ⟨kvs, k, e, rfl, hl, rfl⟩
theorem DPut.t {H : Hp} {a b : Addr} {kvs : List (List Key × V)} {k : List Key} {v : V} (e : H a = some (.dT kvs)) (eb : H b = some (.tup (k.map kV))) (hl : kvs.length < sizeLine) :
    DPut H a (.ref b) v (upd H a (.dT (putK kvs k v))) := .inr ⟨kvs, k, b, e, rfl, eb, hl, rfl⟩


section
variable {X : Cx} {pins : List (Addr × Obj)} {σ : St} {H : Hp} {s : Shared} {a : Addr} {y v : V} {u r : Value} {o : Option V} {A : Around} {E : Value → Shared → Prop}

theorem Inv.big (I : Inv X pins σ H s) : sysModules < s.heap.objs.size := by
  have h : mainGlobals < s.heap.objs.size := (I.mod.glob.keeps I.bk).lt
  exact Nat.lt_trans (by decide) h

/-- d[y], there -/
theorem d_getItem {Q : Value → Shared → Prop} (hu : A.units + 1 < cLine) (I : Inv X pins σ H s) (g : DGet H a y (some v)) (ry : RelV y u) (h : ∀ w' s', Inv X pins σ H s' → RelV v w' → Q w' s') :
    wpAny (model X.prog X.w) A (getItem (.ref a) u) Q E s := by
  rcases g with ⟨kvs, k, e, ey, l⟩ | ⟨kvs, k, b, e, ey, eb, l⟩
  · subst ey
    obtain ⟨z, hd, vs, rel, dd⟩ := dk_rd I.hok e
    obtain ⟨w', hw, rw'⟩ := RelO.some_of (v := v) (o := valueAt vs k) (by rw [l]; exact rel.val k)
    exact wpAny_getItem_of (kV_is ry) dd.mapOf hw (h w' _ (I.tok _) rw')
  · subst ey
    cases (show u = Value.ref b from ry)
    obtain ⟨z, hd, xs, rel, dd⟩ := dt_rd I.hok e
    obtain ⟨w', hw, rw'⟩ := RelO.some_of (v := v) (o := (atKey xs k).map (·.2)) (by rw [l]; exact rel.val k)
    obtain ⟨p, hp, hp2⟩ := Option.map_eq_some_iff.mp hw
    refine wpAny_getItem_heap (tupleKind_room_in1 hu) (key_of I.hok eb) dd hp ?_
    rw [hp2]
    exact h w' _ (I.tok _) rw'
/-- y in d -/
theorem d_in {Q : Value → Shared → Prop} (hu : A.units + 1 < cLine) (I : Inv X pins σ H s) (g : DGet H a y o) (ry : RelV y u) (h : ∀ s', Inv X pins σ H s' → Q (.bool o.isSome) s') :
    wpAny (model X.prog X.w) A (compareOp .In u (.ref a)) Q E s := by
  rcases g with ⟨kvs, k, e, ey, l⟩ | ⟨kvs, k, b, e, ey, eb, l⟩
  · subst ey
    obtain ⟨z, hd, vs, rel, dd⟩ := dk_rd I.hok e
    refine wpAny_in_of (kV_is ry) hd dd.mapOf ?_
    rw [← (rel.val k).isSome_eq, ← l]
    exact h _ (I.tok _)
  · subst ey
    cases (show u = Value.ref b from ry)
    obtain ⟨z, hd, xs, rel, dd⟩ := dt_rd I.hok e
    refine wpAny_in_heap (tupleKind_room_in1 hu) (key_of I.hok eb) hd dd ?_
    have q := (rel.val k).isSome_eq
    rw [Option.isSome_map] at q
    rw [← q, ← l]
    exact h _ (I.tok _)
theorem d_notIn {Q : Value → Shared → Prop} (hu : A.units + 1 < cLine) (I : Inv X pins σ H s) (g : DGet H a y o) (ry : RelV y u) (h : ∀ s', Inv X pins σ H s' → Q (.bool (!o.isSome)) s') :
    wpAny (model X.prog X.w) A (compareOp .NotIn u (.ref a)) Q E s := by
  rcases g with ⟨kvs, k, e, ey, l⟩ | ⟨kvs, k, b, e, ey, eb, l⟩
  · subst ey
    obtain ⟨z, hd, vs, rel, dd⟩ := dk_rd I.hok e
    refine wpAny_notIn_of (kV_is ry) hd dd.mapOf ?_
    rw [← (rel.val k).isSome_eq, ← l]
    exact h _ (I.tok _)
  · subst ey
    cases (show u = Value.ref b from ry)
    obtain ⟨z, hd, xs, rel, dd⟩ := dt_rd I.hok e
    refine wpAny_notIn_heap (tupleKind_room_in1 hu) (key_of I.hok eb) hd dd ?_
    have q := (rel.val k).isSome_eq
    rw [Option.isSome_map] at q
    rw [← q, ← l]
    exact h _ (I.tok _)
/-- a dict's object is replaced -/
theorem d_write {h' : Heap} {t' : Nat} {ob : HO} (I : Inv X pins σ H s) (mu : Mut (H a)) (hs : Heap.SameBut a s.heap h') (he : ∃ q, h'.get? a = some q) (new : ObjOk X.prog X.w (upd H a ob) h' a ob) :
    Inv X pins σ (upd H a ob) { s with heap := h', toks := t' } :=
  I.write (x := a) (e := a) mu (.inl rfl) (fun b q hb z => (hs.2 b hb).trans z) he new
theorem dk_new {P : Program} {w : World} {H' : Hp} {h' : Heap} {kvs : List (Key × V)} {vs : List (Key × Value)} (z : kvs.length ≤ sizeLine) (hd : (a == sysModules) = false) (rel : KV kvs vs) (dd : h'.DictOf (mixKind P w) a vs) :
    ObjOk P w H' h' a (.dK kvs) := ⟨z, hd, vs, rel, dd⟩
/-- d[y] = v -/
theorem d_setItem {H' : Hp} {Q : Unit → Shared → Prop} (hu : A.units + 1 < cLine) (I : Inv X pins σ H s) (g : DPut H a y v H') (ry : RelV y u) (rv : RelV v r) (h : ∀ s', Inv X pins σ H' s' → Q () s') :
    wpAny (model X.prog X.w) A (setItem (.ref a) u r) Q E s := by
  rcases g with ⟨kvs, k, e, ey, l, eH⟩ | ⟨kvs, k, b, e, ey, eb, l, eH⟩
  · subst ey eH
    obtain ⟨z, hd, vs, rel, dd⟩ := dk_of I.hok e
    have hz : vs.length ≤ sizeLine := by rw [← rel.length]; exact z
    have hl : (putK kvs k v).length ≤ sizeLine := by have := length_putK kvs k v; omega
    refine wpAny_setItem_pairs (hsz := hz) (kV_is ry) dd fun h' dd' hs => h _ ?_
    have he : ∃ q, h'.get? a = some q := let ⟨q, _, _, hq, _⟩ := dd'; ⟨q, hq⟩
    exact d_write I (by rw [e]; exact True.intro) hs he (dk_new hl hd (rel.put k rv) dd')
  · subst ey eH
    cases (show u = Value.ref b from ry)
    obtain ⟨z, hd, xs, rel, dd⟩ := dt_of I.hok e
    have hz : xs.length ≤ sizeLine := by rw [← Paired.length rel]; exact z
    have hl : (putK kvs k v).length ≤ sizeLine := by have := length_putK kvs k v; omega
    refine wpAny_setItem_heap (hsz := hz) (tupleKind_room_in1 hu) (key_of I.hok eb) dd fun h' dd' hs => h _ ?_
    obtain ⟨q, es, ep, hq, h2, h3, h4, _, h5⟩ := dd'
    refine d_write I (by rw [e]; exact True.intro) hs ⟨q, hq⟩ ⟨hl, hd, _, (rel.put k eb rv).keeps fun c ys ec => ?_, q, es, ep, hq, h2, h3, h4, h5⟩
    rw [upd_ne (ne_of ec e (fun z => nomatch z))]
    exact ec
end

section
variable {X : Cx} {pins : List (Addr × Obj)} {σ : St} {H : Hp} {s : Shared} {a : Addr} {kvs : List (Key × V)} {k : Key} {u : Value} {A : Around} {E : Value → Shared → Prop}
/-- len(d) -/
theorem d_len {Q : Value → Shared → Prop} (I : Inv X pins σ H s) (e : Rd H a (.dK kvs)) (h : ∀ t s', Inv X pins σ H s' → Q (.int kvs.length t) s') : wpAny (model X.prog X.w) A (call (.builtin "len") [.ref a]) Q E s := by
  obtain ⟨z, hd, vs, rel, dd⟩ := dk_rd I.hok e
  refine call_len_dict hd dd (by rw [← rel.length]; rw [sizeLine_eq] at z; omega) ?_
  rw [← rel.length]
  exact h _ _ (I.tok _)
end


/-! ### readings and rules -/
/-- the element of a subscription, not a slice -/
noncomputable def NoSl (i : Expr) : Prop := ∀ ov iv, subscripted i false ov iv = operate [ov, iv] (getItem ov iv)
theorem subD_of {prog : Program} {w : World} {A : Around} {E : Value → Shared → Prop} {s : Shared} {env : Env} {value slice : Expr} {pos : Pos} {T id : String} {Q : Value → Shared → Prop}
    (hl : typeLookup (.type T) "__getitem__" = pure (some (.builtin id))) (hs : NoSl slice)
    (h : wpAny (model prog w) A (eval value env) (fun o s₁ => wpAny (model prog w) A (eval slice env) (fun i s₂ => s₂.TypeIs o T ∧ wpAny (model prog w) A (getItem o i) Q E s₂) E s₁) E s) :
    wpAny (model prog w) A (eval (.Subscript value slice pos) env) Q E s := by
  refine Subscript_ (wpAny_mono h (fun o s₁ h₁ => wpAny_mono h₁ (fun i s₂ h₂ => ?_) fun _ _ x => x) fun _ _ x => x)
  obtain ⟨hT, h₂⟩ := h₂
  unfold subscriptTail
  refine wpAny_bind ?_
  rw [getitemInPython_of_ne hT.not_modules]
  refine wpAny_bind (wpAny_specialOf hT hl ?_)
  have fin : wpAny (model prog w) A (subscripted slice false o i) (fun r s₃ => wpAny (model prog w) A (letTemporaryGo value o r >>= fun _ => pure r) Q E s₃) E s₂ := by
    rw [hs o i]
    exact wpAny_operating (wpAny_mono h₂ (fun r s₃ h₃ => wpAny_bind (wpAny_letTemporaryGo (wpAny_pure h₃))) fun _ _ x => x)
  first
    | exact wpAny_pure (wpAny_bind fin)
    | exact wpAny_bind (wpAny_pure (wpAny_bind fin))
    | exact wpAny_bind fin

theorem dict_typeIs {X : Cx} {pins : List (Addr × Obj)} {σ : St} {H : Hp} {s : Shared} {a : Addr} {y : V} {o : Option V} (I : Inv X pins σ H s) (g : DGet H a y o) : s.TypeIs (.ref a) "dict" := by
  rcases g with ⟨kvs, k, e, _, _⟩ | ⟨kvs, k, b, e, _, _, _⟩
  · obtain ⟨_, _, vs, _, dd⟩ := dk_rd I.hok e
    exact dd.typeIs
  · obtain ⟨_, _, xs, _, dd⟩ := dt_rd I.hok e
    exact dd.typeIs
/-- d[y] -/
noncomputable def tDGet (td ty : TE) : TE := fun σ H Q => td σ H fun x H1 => ty σ H1 fun y H2 => ∃ a v, x = .ref a ∧ DGet H2 a y (some v) ∧ Q v H2
/-- y in d, y not in d -/
noncomputable def tDIn (ty td : TE) : TE := fun σ H Q => ty σ H fun y H1 => td σ H1 fun x H2 => ∃ a o, x = .ref a ∧ DGet H2 a y o ∧ Q (.bl o.isSome) H2
noncomputable def tDNotIn (ty td : TE) : TE := fun σ H Q => ty σ H fun y H1 => td σ H1 fun x H2 => ∃ a o, x = .ref a ∧ DGet H2 a y o ∧ Q (.bl (!o.isSome)) H2
/-- d[y] = v -/
noncomputable def sDPut (td ty tv : TE) : TS := fun D σ H => tv σ H fun v H1 => td σ H1 fun x H2 => ty σ H2 fun y H3 => ∃ a H4, x = .ref a ∧ DPut H3 a y v H4 ∧ D.nx σ H4
section
variable {X : Cx} {o i e value : Expr} {pos pos' tpos : Pos} {td ty tv : TE}
theorem pe_dget (hu : X.A.units + 1 < cLine) (ho : PE X o td) (hi : PE X i ty) (hs : NoSl i) : PE X (.Subscript o i pos) (tDGet td ty) := by
  intro pins s σ H Q I h
  refine subD_of PySem.F.slot_dict_getitem.lookup hs (thn (ho pins s σ H _ I h) fun u s1 ⟨x, H1, I1, rx, q1⟩ => thn (hi pins s1 σ H1 _ I1 q1) fun iv s2 ⟨y, H2, I2, ry, a, v, ex, g, q2⟩ => ?_)
  subst ex
  obtain rfl : u = Value.ref a := rx
  exact ⟨dict_typeIs I2 g, d_getItem hu I2 g ry fun w' s3 I3 rw' => ⟨v, H2, I3, rw', q2⟩⟩
theorem pc_din (hu : X.A.units + 1 < cLine) (hi : PE X i ty) (ho : PE X o td) : PC X .In i o (tDIn ty td) := by
  intro pins s σ H Q I h
  refine thn (hi pins s σ H _ I h) fun iv s1 ⟨y, H1, I1, ry, q1⟩ => thn (ho pins s1 σ H1 _ I1 q1) fun u s2 ⟨x, H2, I2, rx, a, ov, ex, g, q2⟩ => ?_
  subst ex
  obtain rfl : u = Value.ref a := rx
  exact d_in hu I2 g ry fun s3 I3 => ⟨.bl ov.isSome, H2, I3, rfl, q2⟩
theorem pc_dnotin (hu : X.A.units + 1 < cLine) (hi : PE X i ty) (ho : PE X o td) : PC X .NotIn i o (tDNotIn ty td) := by
  intro pins s σ H Q I h
  refine thn (hi pins s σ H _ I h) fun iv s1 ⟨y, H1, I1, ry, q1⟩ => thn (ho pins s1 σ H1 _ I1 q1) fun u s2 ⟨x, H2, I2, rx, a, ov, ex, g, q2⟩ => ?_
  subst ex
  obtain rfl : u = Value.ref a := rx
  exact d_notIn hu I2 g ry fun s3 I3 => ⟨.bl (!ov.isSome), H2, I3, rfl, q2⟩
theorem ps_dput (hu : X.A.units + 1 < cLine) (ho : PE X o td) (hi : PE X i ty) (hv : PE X value tv) (hs : swapsWith value (some (.Subscript o i pos')) pos.line X.env = pure false) :
    PS X (.Assign [.Subscript o i pos'] value pos) (sDPut td ty tv) := by
  intro pins s σ H D I h
  refine wpAny_Assign_Subscript (thn (hv pins s σ H _ I h) fun r s1 ⟨v, H1, I1, rv, q1⟩ => thn (ho pins s1 σ H1 _ I1 q1) fun u s2 ⟨x, H2, I2, rx, q2⟩ => thn (hi pins s2 σ H2 _ I2 q2) fun iv s3 ⟨y, H3, I3, ry, a, H4, ex, g, q3⟩ => ?_) hs
  subst ex
  obtain rfl : u = Value.ref a := rx
  exact d_setItem hu I3 g ry rv fun s4 I4 => ⟨σ, H4, I4, q3⟩
end


/-! ### displays -/
theorem dk_empty {P : Program} {w : World} {H : Hp} (h : Heap) (hb : sysModules < h.objs.size) : ObjOk P w H (h.push { cls := .type "dict", data := .dict #[] }) h.objs.size (.dK []) :=
  ⟨Nat.zero_le _, beq_eq_false_iff_ne.mpr (Ne.symm (Nat.ne_of_lt hb)), [], .nil, Heap.DictOf.new h⟩
theorem dt_empty {P : Program} {w : World} {H : Hp} (h : Heap) (hb : sysModules < h.objs.size) : ObjOk P w H (h.push { cls := .type "dict", data := .dict #[] }) h.objs.size (.dT []) :=
  ⟨Nat.zero_le _, beq_eq_false_iff_ne.mpr (Ne.symm (Nat.ne_of_lt hb)), [], .nil, _, #[], 0, Heap.get?_push_size _ rfl, ⟨rfl, rfl, rfl⟩, rfl, rfl, List.nodup_nil⟩
/-- {}, to be a dict of the kind that is wanted -/
noncomputable def tDNewK : TE := fun _ H Q => ∀ p, H p = none → Q (.ref p) (upd H p (.dK []))
noncomputable def tDNewT : TE := fun _ H Q => ∀ p, H p = none → Q (.ref p) (upd H p (.dT []))
section
variable {X : Cx} {pos : Pos}
theorem pe_dnewK : PE X (.Dict [] [] pos) tDNewK := fun pins s σ H Q I h =>
  wpAny_Dict_empty ⟨.ref s.heap.objs.size, _, I.laid (a := s.heap.objs.size) (o := .dK []) (t' := s.toks) (fun _ _ q => Heap.get?_push_of_some _ q) (Nat.le_refl _) (dk_empty s.heap I.big), rfl, h _ (I.hok.fresh (Nat.le_refl _))⟩
theorem pe_dnewT : PE X (.Dict [] [] pos) tDNewT := fun pins s σ H Q I h =>
  wpAny_Dict_empty ⟨.ref s.heap.objs.size, _, I.laid (a := s.heap.objs.size) (o := .dT []) (t' := s.toks) (fun _ _ q => Heap.get?_push_of_some _ q) (Nat.le_refl _) (dt_empty s.heap I.big), rfl, h _ (I.hok.fresh (Nat.le_refl _))⟩
end

/-! ### methods -/
section
variable {X : Cx} {pins : List (Addr × Obj)} {σ : St} {H : Hp} {s : Shared} {a : Addr} {y d : V} {u r : Value} {o : Option V} {A : Around} {E : Value → Shared → Prop}
end

section
variable {X : Cx} {o e f : Expr} {apos cpos : Pos} {td ty tx : TE}
end

/-! ### dict(d): a copy -/
section
variable {X : Cx} {pins : List (Addr × Obj)} {σ : St} {H : Hp} {s : Shared} {a : Addr} {kvs : List (Key × V)} {A : Around} {E : Value → Shared → Prop}
end


section
variable {X : Cx} {pins : List (Addr × Obj)} {σ : St} {H : Hp} {s : Shared} {a : Addr} {y : V} {u : Value} {A : Around} {E : Value → Shared → Prop}
end
end L2

namespace L2
open PySem PySem.Spec PyProof.Rows

section
variable {prog : Program} {w : World} {A : Around} {E : Value → Shared → Prop}
end

section
variable {X : Cx}
end
end L2

namespace L2
open PySem PySem.Spec PyProof.Rows

section
variable {X : Cx} {pins : List (Addr × Obj)} {σ : St} {H : Hp} {s : Shared} {h' : Heap}
/-- .. and one new object is laid -/
theorem Inv.turnedNew {t' : Nat} {ch : List Addr} {T : Addr} {ob : HO} (I : Inv X pins σ H s) (k : ∀ b o, b ∉ ch → s.heap.get? b = some o → h'.get? b = some o) (hf : ∀ b ∈ ch, FpOk X pins H b) (hT : s.heap.objs.size ≤ T)
    (new : ObjOk X.prog X.w (upd H T ob) h' T ob) : Inv X pins σ (upd H T ob) { s with heap := h', toks := t' } := by
  have hn : H T = none := I.hok.fresh hT
  have nit : ∀ b u, H b = some u → b ∉ ch := fun b u e z => by
    have q := (hf b z).1
    rw [q] at e; cases e
  refine I.step (g' := s.gens) (d' := s.drawn) (ch := ch) (fun b hb => ⟨(hf b hb).2.2.2.1, (hf b hb).2.1, (hf b hb).2.2.2.2.1, (hf b hb).2.2.2.2.2⟩) (fun b o _ _ hc e _ => k b o hc e) (fun b o _ _ hc e _ => ⟨o.slots, k b o hc e⟩)
    (fun b o _ e n => ?_) (fun b o hc e => ⟨o, k b o hc e⟩) (fun b xs e => ?_) (fun b o u e => ?_) (fun b ps e => ⟨#[], ?_⟩) (fun m hm => ?_) (fun b u e => ?_) I.bare
  · rw [upd_ne (Nat.ne_of_lt (Nat.lt_of_lt_of_le (Heap.lt_size e) hT))]; exact n
  · rw [upd_ne (ne_of_none e hn)]; exact e
  · rw [upd_ne (ne_of_none e hn)]; exact e
  · rw [upd_ne (ne_of_none e hn), e]; simp
  · obtain ⟨o, es, ep, ho, r⟩ := hm
    exact ⟨o, es, ep, k _ o (fun z => (hf _ z).2.1 rfl) ho, r⟩
  · by_cases hb : b = T
    · subst hb
      rw [upd_same] at e
      cases e
      exact new
    · rw [upd_ne hb] at e
      refine (I.hok b u e).stay (fun c v hc q => k c v ?_ q) (fun c q => by rw [upd_ne (ne_of_none q hn)]; exact q) fun c xs q => by rw [upd_ne (ne_of_none q hn)]; exact q
      rcases hc with z | z
      · rw [z]; exact nit b u e
      · exact nit c _ z

/-! ### locking a thing while a statement runs -/
theorem Inv.lock {d : Addr} {u : HO} (I : Inv X pins σ H s) (h : H d = some u) (mu : Mut (some u)) : ∃ od, Inv X pins σ (upd H d (.frz od u)) s := by
  have x := I.hok d u h
  have ex : ∃ od, s.heap.get? d = some od := by
    cases u with
    | lst xs => obtain ⟨_, _, _, _, e⟩ := x; exact ⟨_, e⟩
    | dK kvs => obtain ⟨_, _, _, _, o, _, _, e, _⟩ := x; exact ⟨o, e⟩
    | dT kvs => obtain ⟨_, _, _, _, o, _, _, e, _⟩ := x; exact ⟨o, e⟩
    | set S n => obtain ⟨o, _, _, _, e, _⟩ := x; exact ⟨o, e⟩
    | ins C dx fs => obtain ⟨_, _, _, e, _⟩ := x; exact ⟨_, e⟩
    | ext φ => obtain ⟨_, ⟨_, e⟩, _⟩ := x; exact ⟨_, e⟩
    | _ => exact False.elim mu
  obtain ⟨od, e⟩ := ex
  have new : ObjOk X.prog X.w (upd H d (.frz od u)) s.heap d (.frz od u) := by
    refine ⟨e, x.stay (fun b v _ q => q) (fun b q => ?_) fun b xs q => ?_⟩
    · rw [upd_ne (fun z => by rw [z, h] at q; cases q; exact mu)]; exact q
    · rw [upd_ne (fun z => by rw [z, h] at q; cases q; exact mu)]; exact q
  exact ⟨od, I.write (x := d) (e := d) (t' := s.toks) (h' := s.heap) (by rw [h]; exact mu) (.inl rfl) (fun b v _ q => q) ⟨od, e⟩ new⟩
theorem Inv.nofrz {d : Addr} {u : HO} (I : Inv X pins σ H s) (h : H d = some u) (mu : Mut (some u)) : ∀ o' u', X.H_0 d ≠ some (.frz o' u') := fun o' u' e => by
  have q := I.base.frzs d o' u' e
  rw [h] at q
  cases q
  exact mu
theorem Inv.unlock {d : Addr} {od : Obj} {u : HO} (I : Inv X pins σ H s) (h : H d = some (.frz od u)) (hn : ∀ o' u', X.H_0 d ≠ some (.frz o' u')) : Inv X pins σ (upd H d u) s := by
  have neH : ∀ b o, H b = some o → (∀ o' u', o ≠ .frz o' u') → b ≠ d := fun b o e hne z => by
    rw [z, h] at e
    cases e
    exact hne _ _ rfl
  have neN : ∀ b, H b = none → b ≠ d := fun b e z => by rw [z, h] at e; cases e
  refine ⟨I.ok, I.os, I.bare, ⟨I.base.keep, I.base.slot, fun b o e n hx => ?_, I.base.there, fun b xs e => ?_, fun b o x e => ?_, fun b ps e => ?_⟩, I.loc, I.cell, ?_, fun x c e => ?_, fun p hp => ?_, fun b o e => ?_, I.len⟩
  · rw [upd_ne (neN b (I.base.free b o e n hx))]; exact I.base.free b o e n hx
  · have q := I.base.tups b xs e
    rw [upd_ne (neH b _ q (fun _ _ z => nomatch z))]; exact q
  · have q := I.base.frzs b o x e
    rw [upd_ne (fun z => by rw [z] at e; exact hn _ _ e)]; exact q
  · obtain ⟨m, q⟩ := I.base.tbls b ps e
    exact ⟨m, by rw [upd_ne (neH b _ q (fun _ _ z => nomatch z))]; exact q⟩
  · rw [upd_ne (neN _ I.free)]; exact I.free
  · rw [upd_ne (neN c (I.freeC x c e))]; exact I.freeC x c e
  · obtain ⟨e, n, r⟩ := I.pin p hp
    exact ⟨e, by rw [upd_ne (neN _ n)]; exact n, r⟩
  · by_cases hb : b = d
    · rw [hb, upd_same] at e
      cases e
      rw [hb]
      obtain ⟨_, x⟩ := I.hok d _ h
      exact x.stay (fun c v _ q => q) (fun c q => by rw [upd_ne (neH c _ q (fun _ _ z => nomatch z))]; exact q) fun c xs q => by rw [upd_ne (neH c _ q (fun _ _ z => nomatch z))]; exact q
    · rw [upd_ne hb] at e
      exact (I.hok b o e).stay (fun c v _ q => q) (fun c q => by rw [upd_ne (neH c _ q (fun _ _ z => nomatch z))]; exact q) fun c xs q => by rw [upd_ne (neH c _ q (fun _ _ z => nomatch z))]; exact q
end
/-- the statement runs while the thing at d is locked (read, not written); d and what stands there are the reading's choice -/
noncomputable def tLock (t : TS) : TS := fun D σ H => ∃ d u, H d = some u ∧ Mut (some u) ∧ ∀ od, t ⟨fun σ' H' => H' d = some (.frz od u) ∧ D.nx σ' (upd H' d u), fun v H' => H' d = some (.frz od u) ∧ D.rt v (upd H' d u), fun σ' H' => H' d = some (.frz od u) ∧ D.bk σ' (upd H' d u), fun σ' H' => H' d = some (.frz od u) ∧ D.ct σ' (upd H' d u)⟩ σ (upd H d (.frz od u))
section
variable {X : Cx}
theorem ps_lock {st : Stmt} {t : TS} (h : PS X st t) : PS X st (tLock t) := by
  intro pins s σ H D I hw
  obtain ⟨d, u, hd, mu, hw⟩ := hw
  obtain ⟨od, I1⟩ := I.lock hd mu
  refine thn (h pins s σ _ _ I1 (hw od)) fun f s1 q => ?_
  cases f with
  | next => obtain ⟨σ', H', I2, e, q⟩ := q; exact ⟨σ', _, I2.unlock e (I.nofrz hd mu), q⟩
  | brk => obtain ⟨σ', H', I2, e, q⟩ := q; exact ⟨σ', _, I2.unlock e (I.nofrz hd mu), q⟩
  | cont => obtain ⟨σ', H', I2, e, q⟩ := q; exact ⟨σ', _, I2.unlock e (I.nofrz hd mu), q⟩
  | ret v => obtain ⟨x, σ', H', I2, r, e, q⟩ := q; exact ⟨x, σ', _, I2.unlock e (I.nofrz hd mu), r, q⟩
/-! ### one iterator just laid -/
theorem pi_one {tg : Expr} {pins : List (Addr × Obj)} {σ : St} {H : Hp} {s : Shared} {R : It → Hp → Prop} {J : It} {tn : Nat → Heap → Prop} {tk : Nat} (I : Inv X pins σ H s) (o : Obj)
    (T : Turn X.prog X.w X.K tg J [s.heap.objs.size] s.heap.objs.size tn) (st : tn 0 (s.heap.push o)) (q : R J H) : PIE X pins σ tg R (.ref s.heap.objs.size) { s with heap := s.heap.push o, toks := tk } := by
  refine ⟨s.heap.objs.size, [s.heap.objs.size], tn, J, H, rfl, I.kept fun b ob e => Heap.get?_push_of_some _ e, T, st, fun b hb => ?_, q⟩
  have e : b = s.heap.objs.size := by simpa using hb
  subst e
  exact I.fpOk (Nat.le_refl _) (I.hok.fresh (Nat.le_refl _))
end

/-! ### range with a step -/
section
variable {X : Cx} {tg : Expr}
end
/-! ### reversed(list) -/
section
variable {X : Cx} {tg : Expr}
end

/-! ### a str -/
/-! ### a dict's keys: any dict's entries -/
section
variable {prog : Program} {w : World} {A : Around} {E : Value → Shared → Prop} {s : Shared}
end

/-! ### a locked dict -/
theorem paired_get {α β : Type} {G : α → β → Prop} {l₁ : List α} {l₂ : List β} (h : Paired G l₁ l₂) : ∀ {i : Nat} {a : α}, l₁[i]? = some a → ∃ b, l₂[i]? = some b ∧ G a b := by
  induction h with
  | nil => intro i a e; simp at e
  | @cons a b l₁ l₂ r t ih =>
    intro i a' e
    cases i with
    | zero =>
      simp only [List.getElem?_cons_zero, Option.some.injEq] at e
      subst e
      exact ⟨b, rfl, r⟩
    | succ j =>
      simp only [List.getElem?_cons_succ] at e ⊢
      exact ih e
section
variable {X : Cx} {pins : List (Addr × Obj)} {σ : St} {H : Hp} {s : Shared} {d : Addr} {o : Obj}
end

theorem dict_ep {o : Obj} {es es' : Array DictEntry} {ep ep' : Nat} (h : o.data = .dict es ep) (h' : o.data = .dict es' ep') : es' = es ∧ ep' = ep := by
  rw [h] at h'
  cases h'
  exact ⟨rfl, rfl⟩
section
variable {P : Program} {w : World} {K : PySem.W.Frag} {tg : Expr} {d : Addr} {o : Obj} {es : Array DictEntry} {ep : Nat}
end

/-! ### for k in d, d.keys(), d.values(), d.items() -/
section
variable {X : Cx} {tg e : Expr} {td : TE} {apos cpos : Pos}
end

/-! ### enumerate(list) -/
/-! ### zip(list, list) -/
end L2

section 
namespace Bits
open PySem PyProof.Rows

end Bits
end 

section 
namespace TL
open PySem PySem.Builtin PySem.Builtin.Str PySem.StrLaws

noncomputable abbrev tl (x : Str) : List Nat := x.cps.toList
/-! ### the list functions -/
/-- S stands at the head of l -/
noncomputable def pre (S l : List Nat) : Bool := l.take S.length == S
/-- l cut at each S from the left; k signs are still to be passed over -/
noncomputable def spl (S : List Nat) : Nat → List Nat → List Nat → List (List Nat)
  | _, acc, [] => [acc]
  | 0, acc, c :: r => if pre S (c :: r) = true then acc :: spl S (S.length - 1) [] r else spl S 0 (acc ++ [c]) r
  | k + 1, acc, _ :: r => spl S k acc r
/-- what stands before the first S, and behind it -/
noncomputable def par (S : List Nat) : List Nat → List Nat → Option (List Nat × List Nat)
  | _, [] => none
  | acc, c :: r => if pre S (c :: r) = true then some (acc, (c :: r).drop S.length) else par S (acc ++ [c]) r

/-! ### the model's split and partition are these -/
/-! ### computing spl and par -/
/-! ### digits -/
/-! ### words: x.split() -/
end TL
end 

namespace L2
open PySem PySem.Spec PyProof.Rows

section
variable {X : Cx} {pins : List (Addr × Obj)} {σ : St} {H : Hp} {s : Shared} {Q : VK}
end

section
variable {X : Cx}

/-! ### of a text alone -/
/-! ### of a text and a text -/
end

section
variable {X : Cx} {o e : Expr} {to te : TE}
end
end L2

namespace L2
open PySem PySem.Spec PyProof.Rows

section
variable {X : Cx}
end

/-! ### slices of a text -/
end L2

namespace Att
open PySem PySem.W PySem.Calls PyProof.Rows

/-! ### the script -/
/-! ### the attachment: holds_open's last premise (the goal 'hc' behind k_head) from a wpAny of the law's body -/
/-! ### rules over ANY heap (no ledger) from facts about the written part K: the library's own take a ledger (News) for what they write -/
section
variable {prog : Program} {w : World} {A : Around} {E : Value → Shared → Prop} {s : Shared} {K : Frag}

/-! the whole heap as the ledger: makes every rule that writes through a ledger a rule over any heap -/
noncomputable def ledger (h : Heap) (L d : Addr) : List (Addr × Obj) := (List.range h.objs.size).filterMap fun a => if a = L ∨ a = d then none else (h.get? a).map fun o => (a, o)
end
end Att

namespace L2
open PySem PySem.Spec PyProof.Rows

end L2

namespace L2
open PySem PySem.Spec PyProof.Rows

end L2


/-! SHORT WORDS over the layer: a def of the text, its body, what a loop and a test want. -/
namespace L2
open PySem PySem.Spec PyProof.Rows

/-! ### the text by places -/
/-- the j-th statement of a class's body -/
noncomputable def inClass (s : Stmt) (j : Nat) : Stmt := match s with
  | .ClassDef _ _ _ body _ _ _ _ _ _ _ => body.getD j (.Pass ⟨0, 0, 0, 0⟩)
  | _ => .Pass ⟨0, 0, 0, 0⟩
noncomputable def defArgs (s : Stmt) : Arguments := match s with
  | .FunctionDef _ a _ _ _ _ _ _ _ _ => a
  | _ => { posonlyargs := [], args := [], vararg := none, kwonlyargs := [], kw_defaults := [], kwarg := none, defaults := [] }
noncomputable def defBody (s : Stmt) : List Stmt := match s with
  | .FunctionDef _ _ b _ _ _ _ _ _ _ => b
  | _ => []
noncomputable def defScope (s : Stmt) : Scope := match s with
  | .FunctionDef _ _ _ _ _ _ sc _ _ _ => sc
  | _ => { kind := .function, names := [], isGenerator := false, isCoroutine := false }

/-! ### no exception leaves a def -/
noncomputable abbrev CX0 : CXT := fun _ _ _ _ _ _ => False
noncomputable abbrev E0 : XK := fun _ _ _ => False
theorem pass0 {X : Cx} : Passes CX0 X E0 := fun _ _ _ _ _ _ _ h => h.elim

/-! ### a def (or method) of the text as it stands behind the top -/
structure Fun (K : PySem.W.Frag) (x qual : Str) (st : Stmt) (f : Addr) (fd : FuncData) : Prop where
  ex : ∃ (oc : Value) (od : Option Addr) (kV doc pm : Value) (an : Option Addr) (cdv ct : Value) (osl : Array (Option Value)),
    fd = PySem.W.fnOf x qual (defArgs st) (defBody st) (defScope st) .none kV doc pm an cdv ct ∧ K.lookup f = some ⟨oc, od, .func fd, osl⟩ ∧ PySem.W.codeIn K cdv qual = true
  kp : PySem.W.keepIn K (.ref f) = true
section
variable {P : Program} {w : World} {K : PySem.W.Frag} {mg : Str → Option Value} {base : Heap}
/-- THE RULE for a def: its body as a term of rules, and the reading of that term -/
theorem Fun.ok {x qual : Str} {st : Stmt} {f : Addr} {fd : FuncData} {N ps : List Str} {k : Nat} {sp : Sp} (F : Fun K x qual st f fd) (S : FnScope N ps (defScope st)) (len : ∀ vs H Q E, sp vs H Q E → vs.length = ps.length)
    (hbody : ∀ (cdv : Value) (A : Around) (outer : List Env) (s : Shared) (H : Hp) (vs : List V) (Q : VK) (E : XK), Room k (A.deeper (envOfC qual (defScope st) s.heap.objs.size f cdv)) → sp vs H Q E →
      ∃ t, PSs (cxOf CX0 P w K mg base N qual (defScope st) f cdv A outer s H E).nox (defBody st) t ∧ t { nx := fun _ H' => Q .non H', rt := Q } (start N vs) H) : FnOk P w K mg base CX0 (k + 1) f fd ps sp := by
  obtain ⟨oc, od, kV, doc, pm, an, cdv, ct, osl, rfl, lk, hcd⟩ := F.ex
  refine fn_of lk hcd S len fun A outer s H vs Q E hr hsp => ?_
  obtain ⟨t, h, q⟩ := hbody cdv A outer s H vs Q E hr hsp
  exact ⟨t, h.nox, q⟩
/-- how its arguments bind (no defaults): h is «fun _ _ _ _ _ _ us hl => match us, hl with | [_, _], _ => rfl», one _ a parameter -/
theorem Fun.binds {x qual : Str} {st : Stmt} {f : Addr} {fd : FuncData} {ps : List Str} (F : Fun K x qual st f fd)
    (h : ∀ (kV doc pm : Value) (an : Option Addr) (cdv ct : Value) (us : List Value), us.length = ps.length → bindArgs (PySem.W.fnOf x qual (defArgs st) (defBody st) (defScope st) .none kV doc pm an cdv ct) ⟨us, []⟩ = pure (ps.zip us)) : Binds K fd ps [] := by
  obtain ⟨oc, od, kV, doc, pm, an, cdv, ct, osl, rfl, lk, hcd⟩ := F.ex
  exact .all (h kV doc pm an cdv ct)
theorem fun_mk {x qual : Str} {st : Stmt} {f : Addr} {oc : Value} {od an : Option Addr} {osl : Array (Option Value)} {kV doc pm cdv ct : Value} (l : K.lookup f = some ⟨oc, od, .func (PySem.W.fnOf x qual (defArgs st) (defBody st) (defScope st) .none kV doc pm an cdv ct), osl⟩)
    (c : PySem.W.codeIn K cdv qual = true) (k : PySem.W.keepIn K (.ref f) = true) : Fun K x qual st f (PySem.W.fnOf x qual (defArgs st) (defBody st) (defScope st) .none kV doc pm an cdv ct) := ⟨⟨oc, od, kV, doc, pm, an, cdv, ct, osl, rfl, l, c⟩, k⟩
end
theorem hu_of {A : Around} {k : Nat} (hr : Room k A) : A.units + 1 < cLine := Nat.lt_of_le_of_lt (Nat.add_le_add_left (by decide : 1 ≤ 64) _) hr.units
theorem small1000 {n : Nat} (h : n ≤ 1000) : n < sizeLine := Nat.lt_of_le_of_lt h (by decide)

/-! ### expressions in short: the name that stands in the i-th slot -/
section
variable {X : Cx}
theorem pv (i : Nat) {x : Str} {pos : Pos} (hN : X.N[i]? = some x := by rfl) (hv : Vis X.env.scope x := by first | exact Or.inl rfl | exact Or.inr (Or.inl rfl) | exact Or.inr (Or.inr rfl)) (hd : (x == ("__debug__" : Str)) = false := by decide)
    (hcd : (x == ("__classdict__" : Str)) = false := by decide) : PE X (.Name x pos) (tVar i) := pe_var hN hv hd hcd
/-- len of a dict -/
theorem call_lenD : CallR X (.builtin "len") (fun xs H Q => ∃ a kvs, xs = [V.ref a] ∧ H a = some (.dK kvs) ∧ Q (.int kvs.length) H) := by
  intro pins s σ H xs us Q I r h
  obtain ⟨a, kvs, rfl, ha, q⟩ := h
  obtain ⟨u, rfl, ru⟩ := vals1 r
  cases ru
  exact d_len I (.inl ha) fun t s' I' => ⟨.int kvs.length, H, I', ⟨t, rfl⟩, q⟩
end

/-! ### tests -/
theorem iteF {A B : Prop} (h : B) : if false = true then A else B := by
  rw [if_neg Bool.false_ne_true]
  exact h
theorem iteT {A B : Prop} (h : A) : if true = true then A else B := by
  rw [if_pos rfl]
  exact h
theorem ite2 {c A B : Prop} [Decidable c] (h1 : c → A) (h2 : ¬ c → B) : if c then A else B := by
  by_cases h : c
  · rw [if_pos h]
    exact h1 h
  · rw [if_neg h]
    exact h2 h
/-! ### heaps -/
/-- all that was tracked is as it was -/
noncomputable def Same (H H' : Hp) : Prop := ∀ b o, H b = some o → H' b = some o
theorem Same.refl (H : Hp) : Same H H := fun _ _ h => h
theorem Same.trans {H H1 H2 : Hp} (a : Same H H1) (b : Same H1 H2) : Same H H2 := fun c o h => b c o (a c o h)
theorem Same.free {H H' : Hp} (e : Same H H') {l : Addr} (h : H' l = Option.none) : H l = Option.none := by
  cases q : H l with
  | none => rfl
  | some o =>
    rw [e l o q] at h
    cases h
theorem Same.seq {K : PySem.W.Frag} {H H' : Hp} {a : Addr} {xs : List V} (e : Same H H') (h : SqL K H a xs) : SqL K H' a xs := by
  rcases h with (h | ⟨o, h⟩) | h
  · exact .inl (.inl (e _ _ h))
  · exact .inl (.inr ⟨o, e _ _ h⟩)
  · exact .inr h

/-! ### a dict's pairs: keys that differ -/
section
variable {κ : Type} [DecidableEq κ]
end
/-! ### lists -/
theorem at_of {xs : List V} {z : Int} {j : Nat} {v : V} (e : z = (j : Int)) (h : xs[j]? = some v) : atI xs z = some v := by
  rw [e]
  exact atI_nat h
end L2

end
section
set_option Elab.async false
set_option linter.all false
set_option maxRecDepth 100000
set_option maxHeartbeats 2000000
namespace L2
open PySem PySem.Spec PyProof.Rows
open PySem.W (WData Codec OpenSpec Well WellAll ReadsW ReadsAllW)
/-! ### an answer as data -/
mutual
/-- x stands for the datum d, lists and tuples all the way -/
inductive Dw (K : PySem.W.Frag) (H : Hp) : V → WData → Prop
  | non : Dw K H .non .none
  | bl (b : Bool) : Dw K H (.bl b) (.bool b)
  | int (i : Int) : Dw K H (.int i) (.int i)
  | str (x : Str) : Dw K H (.str x) (.str x)
  | byt (b : Array UInt8) : Dw K H (.byt b) (.bytes b.toList)
  | lst {a : Addr} {xs : List V} {ds : List WData} : SqL K H a xs → DwAll K H xs ds → Dw K H (.ref a) (.list ds)
  | tup {a : Addr} {xs : List V} {ds : List WData} : SqT K H a xs → DwAll K H xs ds → Dw K H (.ref a) (.tuple ds)
inductive DwAll (K : PySem.W.Frag) (H : Hp) : List V → List WData → Prop
  | nil : DwAll K H [] []
  | cons {v : V} {vs : List V} {d : WData} {ds : List WData} : Dw K H v d → DwAll K H vs ds → DwAll K H (v :: vs) (d :: ds)
end
theorem dw_ints {K : PySem.W.Frag} {H : Hp} : ∀ ns : List Int, DwAll K H (ns.map V.int) (ns.map WData.int)
  | [] => .nil
  | n :: r => .cons (.int n) (dw_ints r)
theorem ints_dw {K : PySem.W.Frag} {H : Hp} : ∀ (ns : List Int) (xs : List V), DwAll K H xs (ns.map WData.int) → xs = ns.map V.int
  | [], xs, h => by
    cases h
    rfl
  | n :: r, xs, h => by
    cases h with
    | cons h1 h2 =>
      cases h1
      rw [ints_dw r _ h2] <;> rfl
section
variable {P : Program} {w : World} {K : PySem.W.Frag} {H : Hp} {h : Heap} {R : PySem.W.WRecords} {cl : Str → Option Addr}
theorem sqL_at {a : Addr} {xs : List V} (hok : HOk P w H h) (KX : K.In h) (q : SqL K H a xs) : ∃ (its : List Value) (o : Obj) (n : Nat), Vals xs its ∧ h.get? a = some o ∧ o.cls = .type "list" ∧ o.data = .seq its.toArray n := by
  rcases q with q | ⟨o, its, n, e, hc, _, hd, _, hv⟩
  · obtain ⟨_, its, n, hv, e⟩ := (show ObjOk P w H h a (.lst xs) from q.ok hok)
    exact ⟨its, _, n, hv, e, rfl, rfl⟩
  · exact ⟨its.toList, o, n, hv, KX _ _ e, hc, by simp [hd]⟩
theorem sqT_at {a : Addr} {xs : List V} (hok : HOk P w H h) (KX : K.In h) (q : SqT K H a xs) : ∃ (its : List Value) (o : Obj) (n : Nat), Vals xs its ∧ h.get? a = some o ∧ o.cls = .type "tuple" ∧ o.data = .seq its.toArray n := by
  rcases q with q | ⟨o, its, n, e, hc, hd, _, hv⟩
  · obtain ⟨_, its, hv, o, e, hc, n, hd⟩ := (show ObjOk P w H h a (.tup xs) from q.ok hok)
    exact ⟨its, o, n, hv, e, hc, hd⟩
  · exact ⟨its.toList, o, n, hv, KX _ _ e, hc, by simp [hd]⟩
mutual
theorem Dw.reads (hok : HOk P w H h) (KX : K.In h) : ∀ (d : WData) (v : V) (u : Value), Dw K H v d → RelV v u → ∃ as, ReadsW R cl h u d as
  | .none, _, _, x, r => by
    cases x
    cases r
    exact ⟨_, ReadsW.none⟩
  | .bool b, _, _, x, r => by
    cases x
    cases r
    exact ⟨_, ReadsW.bool b⟩
  | .int i, _, _, x, r => by
    cases x
    obtain ⟨t, rfl⟩ := r
    exact ⟨_, ReadsW.int i t⟩
  | .str s, _, _, x, r => by
    cases x
    obtain ⟨t, rfl⟩ := r
    exact ⟨_, ReadsW.str s t⟩
  | .bytes b, _, _, x, r => by
    cases x
    obtain ⟨t, rfl⟩ := r
    exact ⟨_, ReadsW.bytes _ t⟩
  | .list ds, _, _, x, r => by
    cases x with
    | lst hs ha =>
      cases r
      obtain ⟨its, o, n, rv, ho, hc, hd⟩ := sqL_at hok KX hs
      obtain ⟨as, hr⟩ := Dw.readsAll hok KX ds _ its ha rv
      exact ⟨_, ReadsW.list ho hc hd hr⟩
  | .tuple ds, _, _, x, r => by
    cases x with
    | tup hs ha =>
      cases r
      obtain ⟨its, o, n, rv, ho, hc, hd⟩ := sqT_at hok KX hs
      obtain ⟨as, hr⟩ := Dw.readsAll hok KX ds _ its ha rv
      exact ⟨_, ReadsW.tuple ho hc hd hr⟩
  | .float _, _, _, x, _ => by cases x
  | .dict _, _, _, x, _ => by cases x
  | .bytearray _, _, _, x, _ => by cases x
  | .set _, _, _, x, _ => by cases x
  | .frozenset _, _, _, x, _ => by cases x
  | .obj _ _, _, _, x, _ => by cases x
theorem Dw.readsAll (hok : HOk P w H h) (KX : K.In h) : ∀ (ds : List WData) (vs : List V) (us : List Value), DwAll K H vs ds → Vals vs us → ∃ as, ReadsAllW R cl h us ds as
  | [], _, _, x, r => by
    cases x
    cases r
    exact ⟨_, ReadsAllW.nil⟩
  | d :: ds, _, _, x, r => by
    cases x with
    | cons h1 h2 =>
      cases r with
      | cons r1 r2 =>
        obtain ⟨as, q1⟩ := Dw.reads hok KX d _ _ h1 r1
        obtain ⟨bs, q2⟩ := Dw.readsAll hok KX ds _ _ h2 r2
        exact ⟨_, ReadsAllW.cons q1 q2⟩
end
end
/-! ### the arguments -/
mutual
/-- data that a codec tells -/
noncomputable def plW : WData → Bool
  | .none => true
  | .bool _ => true
  | .int _ => true
  | .str _ => true
  | .bytes _ => true
  | .list xs => plWs xs
  | .tuple xs => plWs xs
  | _ => false
noncomputable def plWs : List WData → Bool
  | [] => true
  | x :: r => plW x && plWs r
end
theorem plWs_map {α : Type} {f : α → WData} (h : ∀ a, plW (f a) = true) : ∀ l : List α, plWs (l.map f) = true
  | [] => rfl
  | x :: r => by
    show (plW (f x) && plWs (r.map f)) = true
    rw [h x, plWs_map h r] <;> rfl
theorem pl_enc : ∀ (c : Codec) (a : c.denote), plW (c.enc a) = true
  | .unit, _ => rfl
  | .bool, _ => rfl
  | .int _ _, _ => rfl
  | .nat _ _, _ => rfl
  | .u8, _ => rfl
  | .bytes _ _, _ => rfl
  | .text _ _ _ _, _ => rfl
  | .list _ _ c, a => plWs_map (fun x => pl_enc c x) a
  | .pair c d, a => by
    show (plW (c.enc a.1) && (plW (d.enc a.2) && true)) = true
    rw [pl_enc c a.1, pl_enc d a.2] <;> rfl
  | .triple c d e, a => by
    show (plW (c.enc a.1) && (plW (d.enc a.2.1) && (plW (e.enc a.2.2) && true))) = true
    rw [pl_enc c a.1, pl_enc d a.2.1, pl_enc e a.2.2] <;> rfl
  | .option c, none => rfl
  | .option c, some x => pl_enc c x
theorem pl_encAll : ∀ (cs : List Codec) (a : Codec.denoteAll cs), plWs (Codec.encAll cs a) = true
  | [], _ => rfl
  | c :: cs, a => by
    show (plW (c.enc a.1) && plWs (Codec.encAll cs a.2)) = true
    rw [pl_enc c a.1, pl_encAll cs a.2] <;> rfl
theorem weight_mem : ∀ {xs : List WData} {d : WData}, d ∈ xs → d.weight ≤ WData.weightAll xs
  | [], d, h => absurd h (by simp)
  | x :: r, d, h => by
    show d.weight ≤ x.weight + 1 + WData.weightAll r
    rcases List.mem_cons.mp h with e | m
    · rw [e]
      omega
    · have z := weight_mem m
      omega
noncomputable def toV : Value → V
  | .none => .non
  | .bool b => .bl b
  | .int i _ => .int i
  | .str x _ => .str x
  | .bytes b _ => .byt b
  | .ref a => .ref a
  | _ => .non
/-- a value of the arguments, its objects among A -/
noncomputable def OkU (A : List Addr) : Value → Prop
  | .none => True
  | .bool _ => True
  | .int _ _ => True
  | .str _ _ => True
  | .bytes _ _ => True
  | .ref a => a ∈ A
  | _ => False
theorem OkU.mono {A B : List Addr} (h : ∀ a ∈ A, a ∈ B) : ∀ {u : Value}, OkU A u → OkU B u := fun {u} x => by
  cases u with
  | ref a => exact h a x
  | none => trivial
  | bool b => trivial
  | int i t => trivial
  | str s t => trivial
  | bytes b t => trivial
  | _ => exact False.elim x
theorem relV_toV {A : List Addr} {u : Value} (x : OkU A u) : RelV (toV u) u := by
  cases u with
  | ref a => rfl
  | none => rfl
  | bool b => rfl
  | int i t => exact ⟨t, rfl⟩
  | str s t => exact ⟨t, rfl⟩
  | bytes b t => exact ⟨t, rfl⟩
  | _ => exact False.elim x
theorem vals_toV {A : List Addr} : ∀ {vs : List Value}, (∀ u ∈ vs, OkU A u) → Vals (vs.map toV) vs
  | [], _ => .nil
  | u :: r, h => .cons (relV_toV (h u (List.mem_cons_self ..))) (vals_toV fun x hx => h x (List.mem_cons_of_mem _ hx))
/-- an object of the arguments -/
noncomputable def ArgOb (h : Heap) (A : List Addr) (a : Addr) : Prop := ∃ vs : List Value, vs.length ≤ sizeLine ∧ (∀ u ∈ vs, OkU A u) ∧
  (h.get? a = some { cls := .type "list", data := .seq vs.toArray } ∨ h.get? a = some { cls := .type "tuple", data := .seq vs.toArray })
theorem ArgOb.mono {h : Heap} {A B : List Addr} {a : Addr} (k : ∀ a ∈ A, a ∈ B) (x : ArgOb h A a) : ArgOb h B a := by
  obtain ⟨vs, h1, h2, h3⟩ := x
  exact ⟨vs, h1, fun u hu => (h2 u hu).mono k, h3⟩
theorem wellAll_len {P : Params} {h : Heap} : ∀ {vs : List Value} {ds : List WData}, WellAll P h vs ds → vs.length = ds.length
  | _, _, .nil => rfl
  | _, _, .cons _ b => by
    show _ + 1 = _ + 1
    rw [wellAll_len b]
theorem well_list {P : Params} {h : Heap} {v : Value} {ds : List WData} (x : Well P h v (.list ds)) : ∃ (a : Addr) (vs : List Value), v = .ref a ∧ h.get? a = some { cls := .type "list", data := .seq vs.toArray } ∧ WellAll P h vs ds := by
  cases x with
  | list ho hall => exact ⟨_, _, rfl, ho, hall⟩
theorem well_tuple {P : Params} {h : Heap} {v : Value} {ds : List WData} (x : Well P h v (.tuple ds)) : ∃ (a : Addr) (vs : List Value), v = .ref a ∧ h.get? a = some { cls := .type "tuple", data := .seq vs.toArray } ∧ WellAll P h vs ds := by
  cases x with
  | tuple ho hall => exact ⟨_, _, rfl, ho, hall⟩
theorem well_cons {P : Params} {h : Heap} {us : List Value} {d : WData} {ds : List WData} (x : WellAll P h us (d :: ds)) : ∃ (v : Value) (vs : List Value), us = v :: vs ∧ Well P h v d ∧ WellAll P h vs ds := by
  cases x with
  | cons a b => exact ⟨_, _, rfl, a, b⟩
theorem line_of {n : Nat} (h : n ≤ 1048576) : n ≤ sizeLine := Nat.le_trans h (by decide)
section
variable {P : Params} {h : Heap}
mutual
theorem area_one : ∀ (d : WData) (v : Value), Well P h v d → plW d = true → d.weight ≤ 1048576 → ∃ A : List Addr, OkU A v ∧ ∀ a ∈ A, ArgOb h A a
  | .none, _, x, _, _ => by
    cases x
    exact ⟨[], trivial, fun a m => absurd m (by simp)⟩
  | .bool b, _, x, _, _ => by
    cases x
    exact ⟨[], trivial, fun a m => absurd m (by simp)⟩
  | .int i, _, x, _, _ => by
    cases x
    exact ⟨[], trivial, fun a m => absurd m (by simp)⟩
  | .str s, _, x, _, _ => by
    cases x
    exact ⟨[], trivial, fun a m => absurd m (by simp)⟩
  | .bytes b, _, x, _, _ => by
    cases x
    exact ⟨[], trivial, fun a m => absurd m (by simp)⟩
  | .list ds, _, x, p, z => by
    obtain ⟨a, vs, rfl, ho, hall⟩ := well_list x
    have z2 : WData.weightAll ds ≤ 1048576 := z
    obtain ⟨A, h1, h2⟩ := area_all ds _ hall p fun d hd => Nat.le_trans (weight_mem hd) z2
    have k : ∀ b ∈ A, b ∈ a :: A := fun b hb => List.mem_cons_of_mem _ hb
    refine ⟨a :: A, List.mem_cons_self .., fun b hb => ?_⟩
    rcases List.mem_cons.mp hb with e | m
    · rw [e]
      exact ⟨vs, line_of (by rw [wellAll_len hall]; exact Nat.le_trans (PySem.W.length_le_weightAllW ds) z2), fun u hu => (h1 u hu).mono k, .inl ho⟩
    · exact (h2 b m).mono k
  | .tuple ds, _, x, p, z => by
    obtain ⟨a, vs, rfl, ho, hall⟩ := well_tuple x
    have z2 : WData.weightAll ds ≤ 1048576 := z
    obtain ⟨A, h1, h2⟩ := area_all ds _ hall p fun d hd => Nat.le_trans (weight_mem hd) z2
    have k : ∀ b ∈ A, b ∈ a :: A := fun b hb => List.mem_cons_of_mem _ hb
    refine ⟨a :: A, List.mem_cons_self .., fun b hb => ?_⟩
    rcases List.mem_cons.mp hb with e | m
    · rw [e]
      exact ⟨vs, line_of (by rw [wellAll_len hall]; exact Nat.le_trans (PySem.W.length_le_weightAllW ds) z2), fun u hu => (h1 u hu).mono k, .inr ho⟩
    · exact (h2 b m).mono k
  | .float _, _, _, p, _ => Bool.noConfusion (show false = true from p)
  | .dict _, _, _, p, _ => Bool.noConfusion (show false = true from p)
  | .bytearray _, _, _, p, _ => Bool.noConfusion (show false = true from p)
  | .set _, _, _, p, _ => Bool.noConfusion (show false = true from p)
  | .frozenset _, _, _, p, _ => Bool.noConfusion (show false = true from p)
  | .obj _ _, _, _, p, _ => Bool.noConfusion (show false = true from p)
theorem area_all : ∀ (ds : List WData) (vs : List Value), WellAll P h vs ds → plWs ds = true → (∀ d ∈ ds, d.weight ≤ 1048576) → ∃ A : List Addr, (∀ u ∈ vs, OkU A u) ∧ ∀ a ∈ A, ArgOb h A a
  | [], _, x, _, _ => by
    cases x
    exact ⟨[], fun u m => absurd m (by simp), fun a m => absurd m (by simp)⟩
  | d :: ds, _, x, p, z => by
    obtain ⟨v, vs, rfl, x1, x2⟩ := well_cons x
    have q : plW d = true ∧ plWs ds = true := Bool.and_eq_true_iff.mp p
    obtain ⟨A, a1, a2⟩ := area_one d v x1 q.1 (z d (List.mem_cons_self ..))
    obtain ⟨B, b1, b2⟩ := area_all ds vs x2 q.2 fun e he => z e (List.mem_cons_of_mem _ he)
    have kA : ∀ b ∈ A, b ∈ A ++ B := fun b hb => List.mem_append.mpr (.inl hb)
    have kB : ∀ b ∈ B, b ∈ A ++ B := fun b hb => List.mem_append.mpr (.inr hb)
    refine ⟨A ++ B, fun u hu => ?_, fun b hb => ?_⟩
    · rcases List.mem_cons.mp hu with e | m
      · rw [e]
        exact a1.mono kA
      · exact (b1 u m).mono kB
    · rcases List.mem_append.mp hb with m | m
      · exact (a2 b m).mono kA
      · exact (b2 b m).mono kB
end
end
/-- what is tracked of an argument's object -/
noncomputable def hoOf (o : Obj) : Option HO := match o.data with
  | .seq vs _ => if (o.cls == Value.type "list") = true then some (.frz o (.lst (vs.toList.map toV))) else some (.frz o (.tup (vs.toList.map toV)))
  | _ => none
noncomputable def argH (K : PySem.W.Frag) (h : Heap) (A : List Addr) : Hp := fun b => if b ∈ A then (if (K.lookup b).isNone = true then (h.get? b).bind hoOf else none) else none
/-- nothing is tracked but what is known to the object -/
noncomputable def OnlyF (H : Hp) : Prop := ∀ b, H b = none ∨ ∃ o u, H b = some (.frz o u)
theorem hoOf_lst (vs : List Value) : hoOf { cls := .type "list", data := .seq vs.toArray } = some (.frz { cls := .type "list", data := .seq vs.toArray } (.lst (vs.map toV))) := by
  show (if (Value.type "list" == Value.type "list") = true then some (HO.frz { cls := .type "list", data := .seq vs.toArray } (.lst (vs.toArray.toList.map toV))) else some (HO.frz { cls := .type "list", data := .seq vs.toArray } (.tup (vs.toArray.toList.map toV)))) = _
  rw [if_pos (beq_self_eq_true _)]
theorem hoOf_tup (vs : List Value) : hoOf { cls := .type "tuple", data := .seq vs.toArray } = some (.frz { cls := .type "tuple", data := .seq vs.toArray } (.tup (vs.map toV))) := by
  show (if (Value.type "tuple" == Value.type "list") = true then some (HO.frz { cls := .type "tuple", data := .seq vs.toArray } (.lst (vs.toArray.toList.map toV))) else some (HO.frz { cls := .type "tuple", data := .seq vs.toArray } (.tup (vs.toArray.toList.map toV)))) = _
  rw [if_neg (by decide)]
section
variable {P : Program} {w : World} {K : PySem.W.Frag} {h : Heap} {A : List Addr}
theorem argH_at {b : Addr} {o : Obj} (hb : b ∈ A) (hk : K.lookup b = none) (e : h.get? b = some o) : argH K h A b = hoOf o := by
  unfold argH
  rw [if_pos hb, hk, if_pos (show (none : Option Obj).isNone = true from rfl), e] <;> rfl
theorem of_argH {b : Addr} {u : HO} (q : argH K h A b = some u) : b ∈ A ∧ K.lookup b = none := by
  unfold argH at q
  by_cases hb : b ∈ A
  · rw [if_pos hb] at q
    cases hk : K.lookup b with
    | none => exact ⟨hb, rfl⟩
    | some o =>
      rw [hk, if_neg (by simp)] at q
      cases q
  · rw [if_neg hb] at q
    cases q
/-- what stands tracked -/
theorem argH_is (ar : ∀ a ∈ A, ArgOb h A a) {b : Addr} {u : HO} (q : argH K h A b = some u) : K.lookup b = none ∧ ∃ vs : List Value, vs.length ≤ sizeLine ∧ (∀ u ∈ vs, OkU A u) ∧
    ((h.get? b = some { cls := .type "list", data := .seq vs.toArray } ∧ u = .frz { cls := .type "list", data := .seq vs.toArray } (.lst (vs.map toV))) ∨
     (h.get? b = some { cls := .type "tuple", data := .seq vs.toArray } ∧ u = .frz { cls := .type "tuple", data := .seq vs.toArray } (.tup (vs.map toV)))) := by
  obtain ⟨hb, hk⟩ := of_argH q
  obtain ⟨vs, h1, h2, h3⟩ := ar b hb
  refine ⟨hk, vs, h1, h2, ?_⟩
  rcases h3 with e | e
  · rw [argH_at hb hk e, hoOf_lst] at q
    exact .inl ⟨e, (Option.some.inj q).symm⟩
  · rw [argH_at hb hk e, hoOf_tup] at q
    exact .inr ⟨e, (Option.some.inj q).symm⟩
theorem argH_only (ar : ∀ a ∈ A, ArgOb h A a) : OnlyF (argH K h A) := fun b => by
  cases q : argH K h A b with
  | none => exact .inl rfl
  | some u =>
    obtain ⟨_, vs, _, _, ⟨_, e⟩ | ⟨_, e⟩⟩ := argH_is ar q
    · exact .inr ⟨_, _, by rw [e]⟩
    · exact .inr ⟨_, _, by rw [e]⟩
theorem argH_ok (ar : ∀ a ∈ A, ArgOb h A a) : HOk P w (argH K h A) h := fun b u q => by
  obtain ⟨_, vs, h1, h2, ⟨e, rfl⟩ | ⟨e, rfl⟩⟩ := argH_is ar q
  · exact ⟨e, by rw [List.length_map]; exact h1, vs, _, vals_toV h2, e⟩
  · exact ⟨e, by rw [List.length_map]; exact h1, vs, vals_toV h2, _, e, rfl, _, rfl⟩
theorem seq_inj {c c' : Value} {vs us : List Value} (e : (some { cls := c, data := .seq vs.toArray } : Option Obj) = some { cls := c', data := .seq us.toArray }) : c = c' ∧ vs = us := by
  have e1 := Option.some.inj e
  have e2 : c = c' := congrArg Obj.cls e1
  have e3 : Data.seq vs.toArray = Data.seq us.toArray := congrArg Obj.data e1
  injection e3 with e4
  refine ⟨e2, ?_⟩
  have e5 := congrArg Array.toList e4
  simpa using e5
/-- a list argument -/
theorem argL (KX : K.In h) (ar : ∀ a ∈ A, ArgOb h A a) {a : Addr} {vs : List Value} (ha : a ∈ A) (e : h.get? a = some { cls := .type "list", data := .seq vs.toArray }) : (∀ u ∈ vs, OkU A u) ∧ SqL K (argH K h A) a (vs.map toV) := by
  obtain ⟨us, h1, h2, h3⟩ := ar a ha
  have hu : us = vs := by
    rcases h3 with q | q
    · rw [e] at q
      exact (seq_inj q).2.symm
    · rw [e] at q
      exact absurd (Value.type.inj (seq_inj q).1) (by decide)
  subst hu
  refine ⟨h2, ?_⟩
  cases hk : K.lookup a with
  | none => exact .inl (.inr ⟨_, by rw [argH_at ha hk e, hoOf_lst]⟩)
  | some o =>
    have e2 := KX a o hk
    rw [e] at e2
    obtain rfl := Option.some.inj e2
    exact .inr ⟨_, us.toArray, _, hk, rfl, rfl, rfl, by rw [List.size_toArray]; exact h1, by simpa using vals_toV h2⟩
theorem argT (KX : K.In h) (ar : ∀ a ∈ A, ArgOb h A a) {a : Addr} {vs : List Value} (ha : a ∈ A) (e : h.get? a = some { cls := .type "tuple", data := .seq vs.toArray }) : (∀ u ∈ vs, OkU A u) ∧ SqT K (argH K h A) a (vs.map toV) := by
  obtain ⟨us, h1, h2, h3⟩ := ar a ha
  have hu : us = vs := by
    rcases h3 with q | q
    · rw [e] at q
      exact absurd (Value.type.inj (seq_inj q).1) (by decide)
    · rw [e] at q
      exact (seq_inj q).2.symm
  subst hu
  refine ⟨h2, ?_⟩
  cases hk : K.lookup a with
  | none => exact .inl (.inr ⟨_, by rw [argH_at ha hk e, hoOf_tup]⟩)
  | some o =>
    have e2 := KX a o hk
    rw [e] at e2
    obtain rfl := Option.some.inj e2
    exact .inr ⟨_, us.toArray, _, hk, rfl, rfl, by rw [List.size_toArray]; exact h1, by simpa using vals_toV h2⟩
mutual
theorem dw_one {Pm : Params} (KX : K.In h) (ar : ∀ a ∈ A, ArgOb h A a) : ∀ (d : WData) (v : Value), Well Pm h v d → plW d = true → OkU A v → Dw K (argH K h A) (toV v) d
  | .none, _, x, _, _ => by
    cases x
    exact .non
  | .bool b, _, x, _, _ => by
    cases x
    exact .bl b
  | .int i, _, x, _, _ => by
    cases x
    exact .int i
  | .str s, _, x, _, _ => by
    cases x
    exact .str s
  | .bytes b, _, x, _, _ => by
    cases x
    have z := Dw.byt (K := K) (H := argH K h A) b.toArray
    exact z
  | .list ds, _, x, p, hu => by
    obtain ⟨a, vs, rfl, ho, hall⟩ := well_list x
    obtain ⟨h2, hs⟩ := argL KX ar hu ho
    exact .lst hs (dw_all KX ar ds _ hall p h2)
  | .tuple ds, _, x, p, hu => by
    obtain ⟨a, vs, rfl, ho, hall⟩ := well_tuple x
    obtain ⟨h2, hs⟩ := argT KX ar hu ho
    exact .tup hs (dw_all KX ar ds _ hall p h2)
  | .float _, _, _, p, _ => Bool.noConfusion (show false = true from p)
  | .dict _, _, _, p, _ => Bool.noConfusion (show false = true from p)
  | .bytearray _, _, _, p, _ => Bool.noConfusion (show false = true from p)
  | .set _, _, _, p, _ => Bool.noConfusion (show false = true from p)
  | .frozenset _, _, _, p, _ => Bool.noConfusion (show false = true from p)
  | .obj _ _, _, _, p, _ => Bool.noConfusion (show false = true from p)
theorem dw_all {Pm : Params} (KX : K.In h) (ar : ∀ a ∈ A, ArgOb h A a) : ∀ (ds : List WData) (vs : List Value), WellAll Pm h vs ds → plWs ds = true → (∀ u ∈ vs, OkU A u) → DwAll K (argH K h A) (vs.map toV) ds
  | [], _, x, _, _ => by
    cases x
    exact .nil
  | d :: ds, _, x, p, hu => by
    obtain ⟨v, vs, rfl, x1, x2⟩ := well_cons x
    have q : plW d = true ∧ plWs ds = true := Bool.and_eq_true_iff.mp p
    exact .cons (dw_one KX ar d v x1 q.1 (hu _ (List.mem_cons_self ..))) (dw_all KX ar ds vs x2 q.2 fun u m => hu u (List.mem_cons_of_mem _ m))
end
end
/-! ### the call -/
theorem spec_call {P : Program} {w : World} {K : PySem.W.Frag} {mg mb : Str → Option Value} {CX : CXT} {k : Nat} {fa : Addr} {fd : FuncData} {ps : List Str} {sp : Sp} {s₁ : Shared} {vals : List Value} {ds : List WData} {R : PySem.W.WRecords} {cl : Str → Option Addr} {d0 : WData}
    (KX : K.In s₁.heap) (hns : s₁.heap.Ns mainGlobals mg) (hb : s₁.heap.Ns builtinsNs mb) (hbb : ∀ x : Str, x ≠ "__name__" → mb x = bootBuiltins x) (hlim : s₁.heap.NoLimit) (hg : s₁.gens = #[])
    (hwl : WellAll w.params s₁.heap vals ds) (hpl : plWs ds = true) (hwt : ∀ d ∈ ds, d.weight ≤ 1048576) (hr : Room k callerA)
    (F : ∀ base : Heap, K.In base → base.Ns mainGlobals mg → FnOk P w K mg base CX k fa fd ps sp) (hbind : ∀ (s : Shared) (us : List Value), us.length = ps.length → BindsTo s fd ⟨us, []⟩ (ps.zip us)) (hlen : ds.length = ps.length)
    (hsp : ∀ (H : Hp) (xs : List V), OnlyF H → DwAll K H xs ds → sp xs H (fun v H' => Dw K H' v d0) fun _ _ _ => False)
    (hCX : ∀ H e s', CX [] H s₁ (fun _ _ _ => False) e s' → False) :
    codeAny (model P w) callerA (.call (.ref fa) ⟨vals, []⟩) (fun r s' => ∃ u as, r = .ok (.ret u) ∧ ReadsW R cl s'.heap u d0 as ∧ OldK s₁.heap s'.heap ∧ s'.os = s₁.os ∧ AllBare s'.gens) s₁ := by
  obtain ⟨A, ho, ar⟩ := area_all ds vals hwl hpl hwt
  have hO : OnlyF (argH K s₁.heap A) := argH_only ar
  have hok : HOk P w (argH K s₁.heap A) s₁.heap := argH_ok ar
  have hS := dw_all KX ar ds vals hwl hpl ho
  have hV := vals_toV ho
  have hK : ∀ b u, argH K s₁.heap A b = some u → K.lookup b = none := fun b u q => (argH_is ar q).1
  have noA : ∀ {b : Addr} {o : Obj} {es : Array DictEntry} {ep : Nat}, s₁.heap.get? b = some o → o.data = .dict es ep → argH K s₁.heap A b = none := fun {b o es ep} e d => by
    cases q : argH K s₁.heap A b with
    | none => rfl
    | some u =>
      obtain ⟨_, vs, _, _, ⟨e2, _⟩ | ⟨e2, _⟩⟩ := argH_is ar q
      · rw [e2] at e
        cases e
        have d' : Data.seq vs.toArray _ = Data.dict es ep := d
        cases d'
      · rw [e2] at e
        cases e
        have d' : Data.seq vs.toArray _ = Data.dict es ep := d
        cases d'
  generalize argH K s₁.heap A = H at hO hok hS hK noA
  have base_of : ∀ {b : Addr} {o : Obj}, s₁.heap.get? b = some o → H b = none → (hidT s₁.heap H).get? b = some o := fun e n => hidT_get e n
  have nsK : ∀ {b : Addr} {m : Str → Option Value}, s₁.heap.Ns b m → (hidT s₁.heap H).Ns b m := fun {b m} ⟨o, es, ep, e, d, r⟩ => ⟨o, es, ep, base_of e (noA e d), d, r⟩
  have nK : ∀ b o, K.lookup b = some o → H b = none := fun b o e => by
    cases q : H b with
    | none => rfl
    | some u =>
      rw [hK b u q] at e
      cases e
  have hKb : K.In (hidT s₁.heap H) := fun b o e => base_of (KX b o e) (nK b o e)
  have hM : Mod K mg (hidT s₁.heap H) := ⟨hKb, nsK hns, ⟨mb, nsK hb, hbb⟩, let ⟨mc, h1, h2⟩ := hlim; ⟨mc, nsK h1, h2⟩⟩
  have e0 : Env0 P w K mg (hidT s₁.heap H) callerA [] s₁ H := ⟨rfl, hM, fun b o e => of_hidT e, Nat.le_of_eq (hidT_size _ _), trivial, fun b hb => absurd (show b ∈ ([] : List Addr) from hb) (by simp), hok, .of_eq hg⟩
  have hl : vals.length = ps.length := by rw [wellAll_len hwl]; exact hlen
  refine codeAny_mono ((F _ hKb (nsK hns)).run callerA [] s₁ H ⟨vals, []⟩ vals (vals.map toV) _ _ hr e0 (hbind s₁ vals hl) hV (hsp H _ hO hS)) fun r s' x => ?_
  cases r with
  | error e => exact (hCX H e s' x).elim
  | ok fl =>
    cases fl with
    | next => exact False.elim x
    | brk => exact False.elim x
    | cont => exact False.elim x
    | ret u =>
      obtain ⟨v, H', os, bare, un, hok', r', q⟩ := x
      have kept : ∀ b o, s₁.heap.get? b = some o → s'.heap.get? b = some o := fun b o e => by
        cases q2 : H b with
        | none => exact un.keep b o e q2 (by intro z; exact absurd (show b ∈ ([] : List Addr) from z) (by simp)) (by simp)
        | some u2 =>
          rcases hO b with z | ⟨ob, u3, z⟩
          · rw [q2] at z
            cases z
          · have z2 := un.frzs b ob _ z
            obtain ⟨e1, _⟩ := hok b _ z
            obtain ⟨e2, _⟩ := hok' b _ z2
            rw [e] at e1
            cases e1
            exact e2
      have KX' : K.In s'.heap := fun b o e => kept b o (KX b o e)
      obtain ⟨as, hrd⟩ := Dw.reads (R := R) (cl := cl) hok' KX' d0 v u q r'
      exact ⟨u, as, rfl, hrd, OldK.of_keep kept, os, bare⟩
/-! ### the row -/
theorem layable_weight {ds : List WData} (h : WData.layableAll ds = true) : ∀ d ∈ ds, d.weight ≤ 1048576 := fun d hd =>
  (PySem.W.layableW_iff.mp (List.all_eq_true.mp h d hd)).2.2
theorem encAll_len : ∀ (cs : List Codec) (a : Codec.denoteAll cs), (Codec.encAll cs a).length = cs.length
  | [], _ => rfl
  | c :: cs, a => by
    show (Codec.encAll cs a.2).length + 1 = cs.length + 1
    rw [encAll_len cs a.2]
/-- the goal that k_headS leaves (case hc), from the promise of the row's def: whatever the arguments that the codecs let and the row asks for, the def gives what stands for enc (f ..) -/
theorem walk_spec {r : OpenSpec} {k : Nat} {q : Program} {loose : List Str} {XP : (Str → Option Value) → Heap → Prop} {YP : World → Heap → Prop} {d : DefRec} {K : Params → PySem.W.Frag} {CX : World → CXT} {ps : List Str} {sp : World → Sp}
    (hwell : r.wellSaid = true) (hdf : d.params.defaults = []) (hlen : r.args.length = ps.length) (hr : Room k callerA)
    (hY : ∀ (w : World) (h : Heap), YP w h → (K w.params).In h)
    (F : ∀ (w : World) (mg : Str → Option Value) (fa : Addr) (h : Heap), YP w h → (K w.params).In h → h.Ns mainGlobals mg → mg d.name = some (.ref fa) →
      ∃ fd : FuncData, (∀ (s : Shared) (us : List Value), us.length = ps.length → BindsTo s fd ⟨us, []⟩ (ps.zip us)) ∧
        ∀ base : Heap, (K w.params).In base → base.Ns mainGlobals mg → FnOk r.prog w (K w.params) mg base (CX w) k fa fd ps (sp w))
    (hsp : ∀ (w : World) (H : Hp) (xs : List V) (a : Codec.denoteAll r.args), OnlyF H → Codec.withinAll r.args a = true → Codec.app r.args r.asked a = true → DwAll (K w.params) H xs (Codec.encAll r.args a) →
      sp w xs H (fun v H' => Dw (K w.params) H' v (r.ret.enc (Codec.app r.args r.f a))) fun _ _ _ => False)
    (hCX : ∀ (w : World) (H : Hp) (s : Shared) (e : Value) (s' : Shared), CX w [] H s (fun _ _ _ => False) e s' → False) :
    PySem.W.WalkOS q loose XP YP r d [] (fun f vs => PySem.call f vs) := by
  intro w s_0 s₁ mg mb G Y fa o pm cd doc dV kV ho hd hcd hD hmg hg args vals as hpre hlay hrd hwl hlo
  obtain ⟨a, e1, e2⟩ := PySem.W.os_pre_some hpre
  obtain ⟨e3, hwi⟩ := Codec.encAll_of_decAll r.args args a e1
  subst e3
  have KX := hY w _ Y
  obtain ⟨fd, hb, hF⟩ := F w mg fa _ Y KX G.T.g hmg
  refine PySem.W.enter_call (codeAny_mono (spec_call (R := []) (cl := classAt s_0.heap) (d0 := r.ret.enc (Codec.app r.args r.f a)) KX G.T.g G.T.b G.T.builtins G.T.nolimit hg hwl (pl_encAll _ _) (layable_weight hlay) hr hF hb (by rw [encAll_len]; exact hlen)
    (fun H xs hO hS => hsp w H xs a hO hwi e2 hS) fun H e s' => hCX w H s₁ e s') fun r' s' hq => ?_)
  obtain ⟨u, as', rfl, h1, h2, h3, h4⟩ := hq
  exact ⟨.inl ⟨u, _, as', rfl, fun _ => rfl, h1, (OpenSpec.post_iff hwell hwi _ _).mpr rfl, fun z => Bool.noConfusion (show false = true from z)⟩, h2, h3, h4⟩
/-- the same where the promise hangs on the written part alone -/
theorem walk_specK {r : OpenSpec} {k : Nat} {q : Program} {loose : List Str} {XP : (Str → Option Value) → Heap → Prop} {YP : World → Heap → Prop} {d : DefRec} {K : Params → PySem.W.Frag} {CX : CXT} {ps : List Str} {sp : PySem.W.Frag → Sp}
    (hwell : r.wellSaid = true) (hdf : d.params.defaults = []) (hlen : r.args.length = ps.length) (hr : Room k callerA)
    (hY : ∀ (w : World) (h : Heap), YP w h → (K w.params).In h)
    (F : ∀ (w : World) (mg : Str → Option Value) (fa : Addr) (h : Heap), YP w h → (K w.params).In h → h.Ns mainGlobals mg → mg d.name = some (.ref fa) →
      ∃ fd : FuncData, (∀ (s : Shared) (us : List Value), us.length = ps.length → BindsTo s fd ⟨us, []⟩ (ps.zip us)) ∧
        ∀ base : Heap, (K w.params).In base → base.Ns mainGlobals mg → FnOk r.prog w (K w.params) mg base CX k fa fd ps (sp (K w.params)))
    (hsp : ∀ (K : PySem.W.Frag) (H : Hp) (xs : List V) (a : Codec.denoteAll r.args), OnlyF H → Codec.withinAll r.args a = true → Codec.app r.args r.asked a = true → DwAll K H xs (Codec.encAll r.args a) →
      sp K xs H (fun v H' => Dw K H' v (r.ret.enc (Codec.app r.args r.f a))) fun _ _ _ => False)
    (hCX : ∀ (H : Hp) (s : Shared) (e : Value) (s' : Shared), CX [] H s (fun _ _ _ => False) e s' → False) :
    PySem.W.WalkOS q loose XP YP r d [] (fun f vs => PySem.call f vs) :=
  walk_spec (K := K) (CX := fun _ => CX) (sp := fun w => sp (K w.params)) hwell hdf hlen hr hY F (fun w H xs a h1 h2 h3 h4 => hsp (K w.params) H xs a h1 h2 h3 h4) fun _ H s e s' => hCX H s e s'
end L2
end
section
set_option linter.all false
/-! The list that is handed in, as calls of the document. -/
namespace Pm
noncomputable abbrev Call := Uw32.Call
noncomputable abbrev Pas := Uw32.Passage
noncomputable def intsN (l : List Nat) : List Int := l.map fun (n : Nat) => (n : Int)
/-- a call's flat numbers -/
noncomputable def enc : Call → List Int
  | .begins w h => [0, (w : Int), (h : Int)]
  | .shoal c => [1, (c : Int)]
  | .winds l => 2 :: (l.length : Int) :: intsN l
  | .strong l => 3 :: (l.length : Int) :: intsN l
  | .boat a b c d k => [4, (a : Int), (b : Int), (c : Int), (d : Int), (k : Int)]
  | .places b m => [5, (b : Int), (m : Int)]
  | .sail x => [6, (x.lo : Int), (x.hi : Int), (x.cost : Int)]
  | .change k => [7, (k : Int)]
  | .soonest => [8]
  | .check l => 9 :: ((Uw32.flat l).length : Int) :: intsN (Uw32.flat l)
noncomputable def big : Nat := 4294967296
/-- within what is handed in -/
noncomputable def Fits : Call → Prop
  | .begins w h => w < big ∧ h < big
  | .shoal c => c < big
  | .winds l => l.length ≤ 20 ∧ ∀ n ∈ l, n < big
  | .strong l => l.length ≤ 20 ∧ ∀ n ∈ l, n < big
  | .boat a b c d k => a < big ∧ b < big ∧ c < big ∧ d < big ∧ k < big
  | .places b m => b < big ∧ m < big
  | .sail x => x.lo < big ∧ x.hi < big ∧ x.cost < big
  | .change k => k < big
  | .soonest => True
  | .check l => l.length ≤ 50 ∧ ∀ x ∈ l, x.1 < big ∧ x.2 < big
noncomputable def out (a : Uw32.Ans) : List Int := Uw32Neutral.out a
/-- what is given back for calls about a passage -/
noncomputable def given : Pas → List Call → List Int
  | _, [] => []
  | s, c :: r => ((out (Uw32.step s c).2).length : Int) :: (out (Uw32.step s c).2 ++ given (Uw32.step s c).1 r)
noncomputable def after : Pas → List Call → Pas
  | s, [] => s
  | s, c :: r => after (Uw32.step s c).1 r
theorem given_snoc : ∀ (s : Pas) (cs : List Call) (c : Call), given s (cs ++ [c]) = given s cs ++ (((out (Uw32.step (after s cs) c).2).length : Int) :: out (Uw32.step (after s cs) c).2)
  | s, [], c => by simp [given, after]
  | s, d :: r, c => by
    have ih := given_snoc (Uw32.step s d).1 r c
    simp only [List.cons_append, given, after, ih, List.append_assoc]
theorem after_snoc : ∀ (s : Pas) (cs : List Call) (c : Call), after s (cs ++ [c]) = (Uw32.step (after s cs) c).1
  | s, [], c => rfl
  | s, d :: r, c => after_snoc (Uw32.step s d).1 r c

/-! ### reading -/
theorem toNat_ints : ∀ {l : List Int}, l.all Uw32Neutral.nat = true → intsN (l.map Int.toNat) = l ∧ ∀ n ∈ l.map Int.toNat, n < big
  | [], _ => ⟨rfl, fun n h => by cases h⟩
  | z :: r, h => by
    rw [List.all_cons, Bool.and_eq_true] at h
    obtain ⟨h1, h2⟩ := h
    have ih := toNat_ints h2
    unfold Uw32Neutral.nat at h1
    rw [Bool.and_eq_true, decide_eq_true_eq, decide_eq_true_eq] at h1
    refine ⟨?_, fun n hn => ?_⟩
    · show ((z.toNat : Nat) : Int) :: intsN (r.map Int.toNat) = z :: r
      rw [ih.1, Int.toNat_of_nonneg h1.1]
    · rcases List.mem_cons.mp hn with e | e
      · subst e
        have := h1.2
        unfold big
        omega
      · exact ih.2 n e
theorem pairs_flat : ∀ {l : List Nat} {w : List (Nat × Nat)}, Uw32Neutral.pairsIn l = some w → Uw32.flat w = l
  | [], w, h => by
    have e : [] = w := Option.some.inj h
    subst e
    rfl
  | [a], w, h => by cases h
  | a :: b :: r, w, h => by
    have h' : (Uw32Neutral.pairsIn r).map (fun q => (a, b) :: q) = some w := h
    cases e : Uw32Neutral.pairsIn r with
    | none => rw [e] at h'; cases h'
    | some q =>
      rw [e] at h'
      have e2 : (a, b) :: q = w := Option.some.inj h'
      subst e2
      have ih := pairs_flat e
      show [a, b] ++ Uw32.flat q = a :: b :: r
      rw [ih]
      rfl
theorem flat_len : ∀ (w : List (Nat × Nat)), (Uw32.flat w).length = 2 * w.length
  | [] => rfl
  | x :: r => by
    have ih := flat_len r
    show ([x.1, x.2] ++ Uw32.flat r).length = _
    rw [List.length_append, ih, List.length_cons]
    simp only [List.length_cons, List.length_nil]
    omega
theorem flat_mem {w : List (Nat × Nat)} {P : Nat → Prop} (h : ∀ n ∈ Uw32.flat w, P n) : ∀ x ∈ w, P x.1 ∧ P x.2 := fun x hx =>
  ⟨h _ (List.mem_flatMap.mpr ⟨x, hx, by simp⟩), h _ (List.mem_flatMap.mpr ⟨x, hx, by simp⟩)⟩
theorem nat_lift {z : Int} (h : Uw32Neutral.nat z = true) : ∃ n : Nat, z = (n : Int) ∧ n < big := by
  unfold Uw32Neutral.nat at h
  rw [Bool.and_eq_true, decide_eq_true_eq, decide_eq_true_eq] at h
  refine ⟨z.toNat, by omega, ?_⟩
  have := h.2
  unfold big
  omega
theorem ln_0 {α : Type} {l : List α} (h : l.length = 0) : l = [] := List.eq_nil_of_length_eq_zero h
theorem ln_1 {α : Type} {l : List α} (h : l.length = 1) : ∃ a0, l = [a0] := by
  cases l with
  | nil => cases h
  | cons a r => exact ⟨a, by rw [ln_0 (Nat.succ.inj h)]⟩
theorem ln_2 {α : Type} {l : List α} (h : l.length = 2) : ∃ a0 a1, l = [a0, a1] := by
  cases l with
  | nil => cases h
  | cons a0 r =>
    obtain ⟨a1, rfl⟩ := ln_1 (Nat.succ.inj h)
    exact ⟨a0, a1, rfl⟩
theorem ln_3 {α : Type} {l : List α} (h : l.length = 3) : ∃ a0 a1 a2, l = [a0, a1, a2] := by
  cases l with
  | nil => cases h
  | cons a0 r =>
    obtain ⟨a1, a2, rfl⟩ := ln_2 (Nat.succ.inj h)
    exact ⟨a0, a1, a2, rfl⟩
theorem ln_4 {α : Type} {l : List α} (h : l.length = 4) : ∃ a0 a1 a2 a3, l = [a0, a1, a2, a3] := by
  cases l with
  | nil => cases h
  | cons a0 r =>
    obtain ⟨a1, a2, a3, rfl⟩ := ln_3 (Nat.succ.inj h)
    exact ⟨a0, a1, a2, a3, rfl⟩
theorem ln_5 {α : Type} {l : List α} (h : l.length = 5) : ∃ a0 a1 a2 a3 a4, l = [a0, a1, a2, a3, a4] := by
  cases l with
  | nil => cases h
  | cons a0 r =>
    obtain ⟨a1, a2, a3, a4, rfl⟩ := ln_4 (Nat.succ.inj h)
    exact ⟨a0, a1, a2, a3, a4, rfl⟩
theorem sh_0_0 {a : List Int} {xs : List (List Int)} (h : some (0, 0) = some (a.length, xs.length)) : a = [] ∧ xs = [] := by
  have h := Option.some.inj h
  have h1 : 0 = a.length := congrArg Prod.fst h
  have h2 : 0 = xs.length := congrArg Prod.snd h
  obtain rfl := ln_0 h1.symm
  obtain rfl := ln_0 h2.symm
  exact ⟨rfl, rfl⟩
theorem sh_1_0 {a : List Int} {xs : List (List Int)} (h : some (1, 0) = some (a.length, xs.length)) : ∃ (u0 : Int), a = [u0] ∧ xs = [] := by
  have h := Option.some.inj h
  have h1 : 1 = a.length := congrArg Prod.fst h
  have h2 : 0 = xs.length := congrArg Prod.snd h
  obtain ⟨u0, rfl⟩ := ln_1 h1.symm
  obtain rfl := ln_0 h2.symm
  exact ⟨u0, rfl, rfl⟩
theorem sh_2_0 {a : List Int} {xs : List (List Int)} (h : some (2, 0) = some (a.length, xs.length)) : ∃ (u0 : Int) (u1 : Int), a = [u0, u1] ∧ xs = [] := by
  have h := Option.some.inj h
  have h1 : 2 = a.length := congrArg Prod.fst h
  have h2 : 0 = xs.length := congrArg Prod.snd h
  obtain ⟨u0, u1, rfl⟩ := ln_2 h1.symm
  obtain rfl := ln_0 h2.symm
  exact ⟨u0, u1, rfl, rfl⟩
theorem sh_3_0 {a : List Int} {xs : List (List Int)} (h : some (3, 0) = some (a.length, xs.length)) : ∃ (u0 : Int) (u1 : Int) (u2 : Int), a = [u0, u1, u2] ∧ xs = [] := by
  have h := Option.some.inj h
  have h1 : 3 = a.length := congrArg Prod.fst h
  have h2 : 0 = xs.length := congrArg Prod.snd h
  obtain ⟨u0, u1, u2, rfl⟩ := ln_3 h1.symm
  obtain rfl := ln_0 h2.symm
  exact ⟨u0, u1, u2, rfl, rfl⟩
theorem sh_5_0 {a : List Int} {xs : List (List Int)} (h : some (5, 0) = some (a.length, xs.length)) : ∃ (u0 : Int) (u1 : Int) (u2 : Int) (u3 : Int) (u4 : Int), a = [u0, u1, u2, u3, u4] ∧ xs = [] := by
  have h := Option.some.inj h
  have h1 : 5 = a.length := congrArg Prod.fst h
  have h2 : 0 = xs.length := congrArg Prod.snd h
  obtain ⟨u0, u1, u2, u3, u4, rfl⟩ := ln_5 h1.symm
  obtain rfl := ln_0 h2.symm
  exact ⟨u0, u1, u2, u3, u4, rfl, rfl⟩
theorem sh_0_1 {a : List Int} {xs : List (List Int)} (h : some (0, 1) = some (a.length, xs.length)) : ∃ (r0 : List Int), a = [] ∧ xs = [r0] := by
  have h := Option.some.inj h
  have h1 : 0 = a.length := congrArg Prod.fst h
  have h2 : 1 = xs.length := congrArg Prod.snd h
  obtain rfl := ln_0 h1.symm
  obtain ⟨r0, rfl⟩ := ln_1 h2.symm
  exact ⟨r0, rfl, rfl⟩
/-- one raw call that is asked: it is a call of the document -/
theorem one {c : List (List Int)} (ok : PyFlat.okCall PyUw32.shape c) (ask : Uw32Neutral.asked1 ((PyUw32.whole c).headD []) = true) :
    ∃ x : Call, PyFlat.put1 c = enc x ∧ Fits x ∧ Uw32Neutral.callOf ((PyUw32.whole c).headD []) = some x := by
  obtain ⟨p, a, xs, rfl, hs⟩ := ok
  have key : ∀ (z : List Int) (x : Call), Uw32Neutral.callOf z = some x → z.all Uw32Neutral.nat = true ∧ Uw32Neutral.callIn (z.map Int.toNat) = some x := by
    intro z x h
    unfold Uw32Neutral.callOf at h
    by_cases e : z.all Uw32Neutral.nat = false
    · rw [if_pos e] at h; cases h
    · rw [if_neg e] at h
      exact ⟨by simpa using e, h⟩
  obtain ⟨x, hx⟩ : ∃ x, Uw32Neutral.callOf ((PyUw32.whole ((p :: a) :: xs)).headD []) = some x := by
    unfold Uw32Neutral.asked1 at ask
    exact Option.isSome_iff_exists.mp ask
  obtain ⟨hn, hc⟩ := key _ _ hx
  suffices hh : PyFlat.put1 ((p :: a) :: xs) = enc x ∧ Fits x from ⟨x, hh.1, hh.2, hx⟩
  · unfold PyUw32.shape at hs
    by_cases h0 : p = 0
    · subst h0
      rw [if_pos rfl] at hs
      obtain ⟨u, v, rfl, rfl⟩ := sh_2_0 hs
      have hn : [0, u, v].all Uw32Neutral.nat = true := hn
      simp only [List.all_cons, List.all_nil, Bool.and_eq_true] at hn
      obtain ⟨_, h1, h2, _⟩ := hn
      obtain ⟨n, rfl, b1⟩ := nat_lift h1
      obtain ⟨m, rfl, b2⟩ := nat_lift h2
      have hc : some (Uw32.Call.begins n m) = some x := hc
      cases hc
      exact ⟨rfl, b1, b2⟩
    rw [if_neg h0] at hs
    by_cases h1 : p = 1
    · subst h1
      rw [if_pos rfl] at hs
      obtain ⟨u, rfl, rfl⟩ := sh_1_0 hs
      have hn : [1, u].all Uw32Neutral.nat = true := hn
      simp only [List.all_cons, List.all_nil, Bool.and_eq_true] at hn
      obtain ⟨_, h1, _⟩ := hn
      obtain ⟨n, rfl, b1⟩ := nat_lift h1
      have hc : some (Uw32.Call.shoal n) = some x := hc
      cases hc
      exact ⟨rfl, b1⟩
    rw [if_neg h1] at hs
    by_cases h2 : p = 2
    · subst h2
      rw [if_pos rfl] at hs
      obtain ⟨r, rfl, rfl⟩ := sh_0_1 hs
      have hn : (2 :: r).all Uw32Neutral.nat = true := hn
      rw [List.all_cons, Bool.and_eq_true] at hn
      obtain ⟨e, b⟩ := toNat_ints hn.2
      have hc : (if (r.map Int.toNat).length ≤ 20 then some (Uw32.Call.winds (r.map Int.toNat)) else none) = some x := hc
      by_cases hl : (r.map Int.toNat).length ≤ 20
      · rw [if_pos hl] at hc
        cases hc
        refine ⟨?_, ⟨hl, b⟩⟩
        show 2 :: ((r.length : Int) :: (r ++ [])) = 2 :: (((r.map Int.toNat).length : Nat) : Int) :: intsN (r.map Int.toNat)
        rw [e, List.append_nil, List.length_map]
      · rw [if_neg hl] at hc; cases hc
    rw [if_neg h2] at hs
    by_cases h3 : p = 3
    · subst h3
      rw [if_pos rfl] at hs
      obtain ⟨r, rfl, rfl⟩ := sh_0_1 hs
      have hn : (3 :: r).all Uw32Neutral.nat = true := hn
      rw [List.all_cons, Bool.and_eq_true] at hn
      obtain ⟨e, b⟩ := toNat_ints hn.2
      have hc : (if (r.map Int.toNat).length ≤ 20 then some (Uw32.Call.strong (r.map Int.toNat)) else none) = some x := hc
      by_cases hl : (r.map Int.toNat).length ≤ 20
      · rw [if_pos hl] at hc
        cases hc
        refine ⟨?_, ⟨hl, b⟩⟩
        show 3 :: ((r.length : Int) :: (r ++ [])) = 3 :: (((r.map Int.toNat).length : Nat) : Int) :: intsN (r.map Int.toNat)
        rw [e, List.append_nil, List.length_map]
      · rw [if_neg hl] at hc; cases hc
    rw [if_neg h3] at hs
    by_cases h4 : p = 4
    · subst h4
      rw [if_pos rfl] at hs
      obtain ⟨u1, u2, u3, u4, u5, rfl, rfl⟩ := sh_5_0 hs
      have hn : [4, u1, u2, u3, u4, u5].all Uw32Neutral.nat = true := hn
      simp only [List.all_cons, List.all_nil, Bool.and_eq_true] at hn
      obtain ⟨_, h1, h2, h3, h4, h5, _⟩ := hn
      obtain ⟨n1, rfl, b1⟩ := nat_lift h1
      obtain ⟨n2, rfl, b2⟩ := nat_lift h2
      obtain ⟨n3, rfl, b3⟩ := nat_lift h3
      obtain ⟨n4, rfl, b4⟩ := nat_lift h4
      obtain ⟨n5, rfl, b5⟩ := nat_lift h5
      have hc : some (Uw32.Call.boat n1 n2 n3 n4 n5) = some x := hc
      cases hc
      exact ⟨rfl, b1, b2, b3, b4, b5⟩
    rw [if_neg h4] at hs
    by_cases h5 : p = 5
    · subst h5
      rw [if_pos rfl] at hs
      obtain ⟨u, v, rfl, rfl⟩ := sh_2_0 hs
      have hn : [5, u, v].all Uw32Neutral.nat = true := hn
      simp only [List.all_cons, List.all_nil, Bool.and_eq_true] at hn
      obtain ⟨_, h1, h2, _⟩ := hn
      obtain ⟨n, rfl, b1⟩ := nat_lift h1
      obtain ⟨m, rfl, b2⟩ := nat_lift h2
      have hc : some (Uw32.Call.places n m) = some x := hc
      cases hc
      exact ⟨rfl, b1, b2⟩
    rw [if_neg h5] at hs
    by_cases h6 : p = 6
    · subst h6
      rw [if_pos rfl] at hs
      obtain ⟨u1, u2, u3, rfl, rfl⟩ := sh_3_0 hs
      have hn : [6, u1, u2, u3].all Uw32Neutral.nat = true := hn
      simp only [List.all_cons, List.all_nil, Bool.and_eq_true] at hn
      obtain ⟨_, h1, h2, h3, _⟩ := hn
      obtain ⟨n1, rfl, b1⟩ := nat_lift h1
      obtain ⟨n2, rfl, b2⟩ := nat_lift h2
      obtain ⟨n3, rfl, b3⟩ := nat_lift h3
      have hc : some (Uw32.Call.sail ⟨n1, n2, n3⟩) = some x := hc
      cases hc
      exact ⟨rfl, b1, b2, b3⟩
    rw [if_neg h6] at hs
    by_cases h7 : p = 7
    · subst h7
      rw [if_pos rfl] at hs
      obtain ⟨u, rfl, rfl⟩ := sh_1_0 hs
      have hn : [7, u].all Uw32Neutral.nat = true := hn
      simp only [List.all_cons, List.all_nil, Bool.and_eq_true] at hn
      obtain ⟨_, h1, _⟩ := hn
      obtain ⟨n, rfl, b1⟩ := nat_lift h1
      have hc : some (Uw32.Call.change n) = some x := hc
      cases hc
      exact ⟨rfl, b1⟩
    rw [if_neg h7] at hs
    by_cases h8 : p = 8
    · subst h8
      rw [if_pos rfl] at hs
      obtain ⟨rfl, rfl⟩ := sh_0_0 hs
      have hc : some Uw32.Call.soonest = some x := hc
      cases hc
      exact ⟨rfl, True.intro⟩
    rw [if_neg h8] at hs
    by_cases h9 : p = 9
    · subst h9
      rw [if_pos rfl] at hs
      obtain ⟨r, rfl, rfl⟩ := sh_0_1 hs
      have hn : (9 :: r).all Uw32Neutral.nat = true := hn
      rw [List.all_cons, Bool.and_eq_true] at hn
      obtain ⟨e, b⟩ := toNat_ints hn.2
      have hc : (if (r.map Int.toNat).length ≤ 100 then (Uw32Neutral.pairsIn (r.map Int.toNat)).map Uw32.Call.check else none) = some x := hc
      by_cases hl : (r.map Int.toNat).length ≤ 100
      · rw [if_pos hl] at hc
        cases hp : Uw32Neutral.pairsIn (r.map Int.toNat) with
        | none => rw [hp] at hc; cases hc
        | some w =>
          rw [hp] at hc
          have hc : some (Uw32.Call.check w) = some x := hc
          cases hc
          have ef := pairs_flat hp
          refine ⟨?_, ⟨by have := flat_len w; rw [ef] at this; omega, flat_mem (P := fun n => n < big) (by rw [ef]; exact b)⟩⟩
          show 9 :: ((r.length : Int) :: (r ++ [])) = 9 :: (((Uw32.flat w).length : Nat) : Int) :: intsN (Uw32.flat w)
          rw [ef, e, List.append_nil, List.length_map]
      · rw [if_neg hl] at hc; cases hc
    rw [if_neg h9] at hs
    cases hs
/-- raw calls that are asked -/
theorem many : ∀ {raw : List (List (List Int))}, (∀ c ∈ raw, PyFlat.okCall PyUw32.shape c) → (∀ c ∈ raw, Uw32Neutral.asked1 ((PyUw32.whole c).headD []) = true) →
    ∃ cs : List Call, cs.length = raw.length ∧ PyFlat.put raw = cs.flatMap enc ∧ (∀ x ∈ cs, Fits x) ∧
      ∀ s : Pas, PyFlat.told (PyFlat.played (fun s c => Uw32Neutral.step s (c.headD [])) s (raw.map PyUw32.whole)) = given s cs
  | [], _, _ => ⟨[], rfl, rfl, fun x h => (by cases h), fun s => rfl⟩
  | c :: r, hok, hask => by
    obtain ⟨x, h1, h2, h3⟩ := one (hok c (List.Mem.head _)) (hask c (List.Mem.head _))
    obtain ⟨cs, g1, g2, g3, g4⟩ := many (raw := r) (fun d hd => hok d (List.Mem.tail _ hd)) (fun d hd => hask d (List.Mem.tail _ hd))
    refine ⟨x :: cs, by rw [List.length_cons, List.length_cons, g1], ?_, ?_, fun s => ?_⟩
    · show PyFlat.put1 c ++ PyFlat.put r = enc x ++ cs.flatMap enc
      rw [h1, g2]
    · intro y hy
      rcases List.mem_cons.mp hy with rfl | hy
      · exact h2
      · exact g3 y hy
    · have e : Uw32Neutral.step s ((PyUw32.whole c).headD []) = ((Uw32.step s x).1, Uw32Neutral.out (Uw32.step s x).2) := by
        unfold Uw32Neutral.step
        rw [h3]
      show (((Uw32Neutral.step s ((PyUw32.whole c).headD [])).2.length : Nat) : Int) :: (Uw32Neutral.step s ((PyUw32.whole c).headD [])).2 ++ PyFlat.told (PyFlat.played (fun s c => Uw32Neutral.step s (c.headD [])) (Uw32Neutral.step s ((PyUw32.whole c).headD [])).1 (r.map PyUw32.whole)) = _
      rw [e, g4]
      rfl
/-- what is handed in, as calls of the document; what is due of it -/
theorem read {l : List Int} (h : PyUw32.answers_asked l = true) : ∃ cs : List Call, cs.length ≤ 40 ∧ l = cs.flatMap enc ∧ (∀ x ∈ cs, Fits x) ∧ PyUw32.answers l = given Uw32.init cs := by
  unfold PyUw32.answers_asked at h
  cases e : PyFlat.calls PyUw32.shape l.length l with
  | none => rw [e] at h; cases h
  | some raw =>
    rw [e] at h
    simp only [Bool.and_eq_true] at h
    obtain ⟨⟨⟨⟨_, h40⟩, _⟩, hask⟩, _⟩ := h
    obtain ⟨el, hok⟩ := PyFlat.put_calls _ _ _ e
    unfold PyFlat.atMost at h40
    have h40' := of_decide_eq_true h40
    unfold Uw32Neutral.asked at hask
    rw [Bool.and_eq_true] at hask
    have hall := hask.1
    rw [List.all_eq_true] at hall
    obtain ⟨cs, g1, g2, g3, g4⟩ := many hok (fun c hc => hall _ (List.mem_map.mpr ⟨PyUw32.whole c, List.mem_map.mpr ⟨c, hc, rfl⟩, rfl⟩))
    refine ⟨cs, by omega, by rw [el, g2], g3, ?_⟩
    unfold PyUw32.answers PyUw32.calls
    rw [e]
    exact g4 Uw32.init
end Pm

end
section
set_option linter.all false
/-! The tables of the specification by minutes and places. -/
namespace Pm
open Uw32
/-- what holds of a passage between two calls -/
structure Good (p : Pas) : Prop where
  w2 : 2 ≤ p.water.wide
  w4 : p.water.wide ≤ 4
  h2 : 2 ≤ p.water.high
  h4 : p.water.high ≤ 4
  sh : ∀ c ∈ p.water.shoals, c < p.water.cells
  shn : p.water.shoals.Nodup
  shb : ¬ p.water.boat ∈ p.water.shoals
  shm : ¬ p.water.mark ∈ p.water.shoals
  wl : p.water.winds.length ≤ 12
  wi : ∀ n ∈ p.water.winds, n ≤ 7
  tk : ∃ a b c d, p.water.takes = [a, b, c, d] ∧ (1 ≤ a ∧ a ≤ 9) ∧ (1 ≤ b ∧ b ≤ 9) ∧ (1 ≤ c ∧ c ≤ 9) ∧ (1 ≤ d ∧ d ≤ 9)
  tn : p.water.turn ≤ 9
  bo : p.water.boat < p.water.cells
  ma : p.water.mark < p.water.cells
  sl : p.strong.length ≤ 12
  st : ∀ n ∈ p.strong, n ≤ 40
  sn : p.sails.length ≤ 3
  sa : ∀ x ∈ p.sails, x.lo ≤ x.hi ∧ x.hi ≤ 40 ∧ x.cost ≤ 9
  ch : p.change ≤ 9
/-- of a row of a table -/
noncomputable def row (p : Pas) (m : Nat) : List (Option Nat) := (p.tables 40).getD m []
/-- when the mark is reached the soonest, from minute m, cell c, side s, sail b -/
noncomputable def V (p : Pas) (m c s b : Nat) : Option Nat := (row p m).getD (p.at_ c s b) none
noncomputable def minO (m v : Option Nat) : Option Nat := match v, m with
  | some v, some u => some (min v u)
  | some v, none => some v
  | none, u => u
/-- the step by a heading and a sail, and what comes of it: the cell, the minutes -/
noncomputable def go (p : Pas) (m c s b : Nat) (x : Nat × Nat) : Option (Nat × Nat) := match p.water.next c x.1, p.step_ m s b x.1 x.2 with
  | some d, some k => some (d, k)
  | _, _ => none
/-- the value behind a move -/
noncomputable def behind (p : Pas) (m c s b : Nat) (x : Nat × Nat) : Option Nat := match go p m c s b x with
  | some (d, k) => V p (m + k) d (Uw28.sideOf s x.1 (p.water.wind m)) x.2
  | none => none
noncomputable def best (p : Pas) (m c s b : Nat) : Option Nat := p.moves.foldl (fun a x => minO a (behind p m c s b x)) none

theorem tables_length (p : Pas) : ∀ n, (p.tables n).length = n + 1
  | 0 => rfl
  | n + 1 => by
    show ((_ :: p.tables n) : List (List (Option Nat))).length = _
    rw [List.length_cons, tables_length p n]
theorem tables_tail (p : Pas) (n j : Nat) : (p.tables (n + 1)).getD (j + 1) [] = (p.tables n).getD j [] := rfl
theorem tables_get (p : Pas) : ∀ n j, j ≤ n → (p.tables n).getD j [] = (p.tables (n - j)).getD 0 []
  | n, 0, _ => rfl
  | 0, j + 1, h => by omega
  | n + 1, j + 1, h => by
    rw [tables_tail, tables_get p n j (by omega)]
    congr 2
    omega
theorem row_out (p : Pas) {m : Nat} (h : 40 < m) : row p m = [] := by
  unfold row
  rw [List.getD_eq_getElem?_getD, List.getElem?_eq_none (by rw [tables_length]; omega)]
  rfl
theorem V_out (p : Pas) {m : Nat} (h : 40 < m) (c s b : Nat) : V p m c s b = none := by
  unfold V
  rw [row_out p h]
  rfl
theorem at_div (p : Pas) {c s b : Nat} (hs : s < 3) (hb : b ≤ p.bare) : p.at_ c s b % (p.bare + 1) = b ∧ p.at_ c s b / (p.bare + 1) % 3 = s ∧ p.at_ c s b / (p.bare + 1) / 3 = c := by
  unfold Passage.at_
  have e1 : ((3 * c + s) * (p.bare + 1) + b) / (p.bare + 1) = 3 * c + s := by
    rw [Nat.mul_comm, Nat.mul_add_div (Nat.succ_pos _), Nat.div_eq_of_lt (by omega)]
    rfl
  refine ⟨?_, ?_, ?_⟩
  · rw [Nat.mul_comm, Nat.mul_add_mod, Nat.mod_eq_of_lt (by omega)]
  · rw [e1]; omega
  · rw [e1]; omega
theorem at_lt (p : Pas) {c s b : Nat} (hc : c < p.water.cells) (hs : s < 3) (hb : b ≤ p.bare) : p.at_ c s b < p.at_ p.water.cells 0 0 := by
  unfold Passage.at_
  have h1 : 3 * c + s + 1 ≤ 3 * p.water.cells + 0 := by omega
  have h2 : (3 * c + s + 1) * (p.bare + 1) ≤ (3 * p.water.cells + 0) * (p.bare + 1) := Nat.mul_le_mul_right _ h1
  have h3 : (3 * c + s + 1) * (p.bare + 1) = (3 * c + s) * (p.bare + 1) + (p.bare + 1) := Nat.succ_mul _ _
  omega
theorem takes_pos {p : Pas} (g : Good p) (k : Nat) : 1 ≤ p.water.takes.getD k 1 := by
  obtain ⟨a, b, c, d, e, h1, h2, h3, h4⟩ := g.tk
  rw [e]
  match k with
  | 0 => exact h1.1
  | 1 => exact h2.1
  | 2 => exact h3.1
  | 3 => exact h4.1
  | k + 4 => exact Nat.le_refl 1
theorem step_pos {p : Pas} (g : Good p) {m s b h i k : Nat} (e : p.step_ m s b h i = some k) : 1 ≤ k := by
  unfold Passage.step_ at e
  by_cases h1 : p.sails.length ≤ i ∨ Uw29.stands (p.sail i) (p.blows m) = false
  · rw [if_pos h1] at e; cases e
  · rw [if_neg h1] at e
    cases q : p.water.step_ m s h with
    | none => rw [q] at e; cases e
    | some j =>
      rw [q] at e
      have e : j + (p.sail i).cost + (if b = i then 0 else p.change) = k := Option.some.inj e
      unfold Uw28.Water.step_ at q
      by_cases h2 : Uw28.point h (p.water.wind m) = 0
      · have q : (if Uw28.point h (p.water.wind m) = 0 then none else some (p.water.takes.getD (Uw28.point h (p.water.wind m) - 1) 1 + if Uw28.turns s h (p.water.wind m) = true then p.water.turn else 0)) = some j := q
        rw [if_pos h2] at q; cases q
      · have q : (if Uw28.point h (p.water.wind m) = 0 then none else some (p.water.takes.getD (Uw28.point h (p.water.wind m) - 1) 1 + if Uw28.turns s h (p.water.wind m) = true then p.water.turn else 0)) = some j := q
        rw [if_neg h2] at q
        have q := Option.some.inj q
        have := takes_pos g (Uw28.point h (p.water.wind m) - 1)
        omega
theorem foldl_ext {α β : Type} {f f' : α → β → α} : ∀ (l : List β) (a : α), (∀ a x, x ∈ l → f a x = f' a x) → l.foldl f a = l.foldl f' a
  | [], _, _ => rfl
  | y :: r, a, h => by
    rw [List.foldl_cons, List.foldl_cons, h a y (List.Mem.head _)]
    exact foldl_ext r _ fun a x hx => h a x (List.Mem.tail _ hx)
theorem best_40 (p : Pas) (g : Good p) (c s b : Nat) : best p 40 c s b = none := by
  have all : ∀ x, behind p 40 c s b x = none := by
    intro x
    unfold behind go
    split
    · rename_i d k e
      split at e
      · rename_i d' k' e1 e2
        cases e
        exact V_out p (by have := step_pos g e2; omega) _ _ _
      · cases e
    · rfl
  unfold best
  generalize p.moves = l
  induction l with
  | nil => rfl
  | cons x r ih =>
    rw [List.foldl_cons, all x]
    exact ih
theorem getD_map_range {α : Type} {f : Nat → Option α} {n i : Nat} (h : i < n) : ((List.range n).map f).getD i none = f i := by
  rw [List.getD_eq_getElem?_getD, List.getElem?_map, List.getElem?_range h]
  rfl
/-- the recurrence -/
theorem V_eq {p : Pas} (g : Good p) {m c s b : Nat} (hm : m ≤ 40) (hc : c < p.water.cells) (hs : s < 3) (hb : b ≤ p.bare) :
    V p m c s b = if c = p.water.mark then some m else best p m c s b := by
  obtain ⟨e1, e2, e3⟩ := at_div p (c := c) hs hb
  have hlt := at_lt p hc hs hb
  by_cases h40 : m = 40
  · subst h40
    rw [best_40 p g]
    unfold V row
    rw [tables_get p 40 40 (Nat.le_refl _)]
    show ((List.range (p.at_ p.water.cells 0 0)).map fun i => if i / (p.bare + 1) / 3 = p.water.mark then some Uw28.LONG else none).getD (p.at_ c s b) none = _
    rw [getD_map_range hlt, e3]
    rfl
  · obtain ⟨n, hn⟩ : ∃ n, 40 - m = n + 1 := ⟨40 - m - 1, by omega⟩
    unfold V row
    rw [tables_get p 40 m hm, hn]
    unfold Passage.tables
    simp only [List.getD_cons_zero]
    rw [getD_map_range hlt, e1, e2, e3]
    have et : Uw28.LONG - (n + 1) = m := by show 40 - (n + 1) = m; omega
    rw [et]
    by_cases hcm : c = p.water.mark
    · rw [if_pos hcm, if_pos hcm]
    · rw [if_neg hcm, if_neg hcm]
      unfold best
      refine foldl_ext _ _ fun a x _ => ?_
      unfold behind go minO
      cases q1 : p.water.next c x.1 with
      | none => rfl
      | some d =>
        cases q2 : p.step_ m s b x.1 x.2 with
        | none => rfl
        | some k =>
          have hk := step_pos g q2
          have er : (p.tables n).getD (k - 1) [] = row p (m + k) := by
            by_cases hb40 : m + k ≤ 40
            · unfold row
              rw [tables_get p n (k - 1) (by omega), tables_get p 40 (m + k) hb40]
              congr 2
              omega
            · rw [row_out p (by omega), List.getD_eq_getElem?_getD, List.getElem?_eq_none (by rw [tables_length]; omega)]
              rfl
          simp only [er]
          unfold V
          rfl
/-- what soonest answers -/
theorem step_soonest (p : Pas) : Uw32.step p .soonest = (p, match V p 0 p.water.boat 0 p.bare with
    | none => ok (-6)
    | some v => ⟨(v : Nat), flat (p.way (p.tables 40) v 40 0 p.water.boat 0 p.bare)⟩) := rfl
/-- the way, by V -/
theorem way_eq (p : Pas) (v f t c s b : Nat) : p.way (p.tables 40) v (f + 1) t c s b = if c = p.water.mark then [] else
    match p.moves.find? fun x => match go p t c s b x with
      | some (d, k) => V p (t + k) d (Uw28.sideOf s x.1 (p.water.wind t)) x.2 == some v
      | none => false with
    | some x => match go p t c s b x with
      | some (d, k) => x :: p.way (p.tables 40) v f (t + k) d (Uw28.sideOf s x.1 (p.water.wind t)) x.2
      | none => []
    | none => [] := by
  conv => lhs; unfold Passage.way
  by_cases hc : c = p.water.mark
  · rw [if_pos hc, if_pos hc]
  · rw [if_neg hc, if_neg hc]
    have e : (fun x : Nat × Nat => match p.water.next c x.1, p.step_ t s b x.1 x.2 with
      | some d, some k => ((p.tables 40).getD (t + k) []).getD (p.at_ d (Uw28.sideOf s x.1 (p.water.wind t)) x.2) none == some v
      | _, _ => false) = fun x => match go p t c s b x with
      | some (d, k) => V p (t + k) d (Uw28.sideOf s x.1 (p.water.wind t)) x.2 == some v
      | none => false := by
      funext x
      unfold go
      cases p.water.next c x.1 with
      | none => rfl
      | some d =>
        cases p.step_ t s b x.1 x.2 with
        | none => rfl
        | some k => rfl
    show (match p.moves.find? (fun x : Nat × Nat => match p.water.next c x.1, p.step_ t s b x.1 x.2 with
      | some d, some k => ((p.tables 40).getD (t + k) []).getD (p.at_ d (Uw28.sideOf s x.1 (p.water.wind t)) x.2) none == some v
      | _, _ => false) with
    | some x => match p.water.next c x.1, p.step_ t s b x.1 x.2 with
      | some d, some k => x :: p.way (p.tables 40) v f (t + k) d (Uw28.sideOf s x.1 (p.water.wind t)) x.2
      | _, _ => []
    | none => []) = _
    rw [e]
    cases p.moves.find? (fun x => match go p t c s b x with
      | some (d, k) => V p (t + k) d (Uw28.sideOf s x.1 (p.water.wind t)) x.2 == some v
      | none => false) with
    | none => rfl
    | some x =>
      unfold go
      simp only
      cases p.water.next c x.1 with
      | none => rfl
      | some d =>
        cases p.step_ t s b x.1 x.2 with
        | none => rfl
        | some k => rfl
end Pm

end
section
set_option linter.all false
/-! What each call does, plainly; what holds between two calls. -/
namespace Pm
open Uw32
theorem good_init : Good Uw32.init := by
  refine ⟨by decide, by decide, by decide, by decide, fun c h => (by cases h), List.nodup_nil, fun h => (by cases h), fun h => (by cases h), by decide, fun n h => (by cases h), ⟨1, 1, 1, 1, rfl, by decide, by decide, by decide, by decide⟩, by decide, by decide, by decide, by decide, fun n h => (by cases h), by decide, fun x h => (by cases h), by decide⟩
/-- a passage at its beginning -/
noncomputable def laid (w h : Nat) : Pas := ⟨⟨w, h, [], [], [1, 1, 1, 1], 0, 0, w * h - 1⟩, [], [], 0⟩
theorem good_laid {w h : Nat} (w2 : 2 ≤ w) (w4 : w ≤ 4) (h2 : 2 ≤ h) (h4 : h ≤ 4) : Good (laid w h) := by
  have hp : 4 ≤ w * h := Nat.mul_le_mul w2 h2
  refine ⟨w2, w4, h2, h4, fun c h => (by cases h), List.nodup_nil, fun h => (by cases h), fun h => (by cases h), Nat.zero_le _, fun n h => (by cases h), ⟨1, 1, 1, 1, rfl, by decide, by decide, by decide, by decide⟩, Nat.zero_le _, ?_, ?_, Nat.zero_le _, fun n h => (by cases h), Nat.zero_le _, fun x h => (by cases h), Nat.zero_le _⟩
  · show 0 < w * h; omega
  · show w * h - 1 < w * h; omega
noncomputable def isExtent (n : Nat) : Bool := decide (2 ≤ n) && decide (n ≤ 4)
theorem step_begins (p : Pas) (w h : Nat) : Uw32.step p (.begins w h) = if isExtent w = true ∧ isExtent h = true then (laid w h, ok 0) else (p, ok (-1)) := by
  unfold Uw32.step
  simp only
  unfold isExtent
  simp only [Bool.and_eq_true, decide_eq_true_eq]
  show (if 4 < w ∨ 4 < h then _ else _) = _
  by_cases h1 : 4 < w ∨ 4 < h
  · rw [if_pos h1, if_neg (by omega)]
  · rw [if_neg h1]
    have e : Uw28.step p.water (.begins w h) = if w < 2 ∨ 5 < w ∨ h < 2 ∨ 5 < h then (p.water, Uw28.ok (-1)) else ((⟨w, h, [], [], [1, 1, 1, 1], 0, 0, w * h - 1⟩ : Uw28.Water), Uw28.ok 0) := rfl
    by_cases h2 : w < 2 ∨ 5 < w ∨ h < 2 ∨ 5 < h
    · rw [if_pos h2] at e
      rw [e, if_neg (show ¬ ((2 ≤ w ∧ w ≤ 4) ∧ 2 ≤ h ∧ h ≤ 4) by omega)]
      rfl
    · rw [if_neg h2] at e
      rw [e, if_pos (show (2 ≤ w ∧ w ≤ 4) ∧ 2 ≤ h ∧ h ≤ 4 by omega)]
      rfl
theorem step_shoal (p : Pas) (c : Nat) : Uw32.step p (.shoal c) = if p.water.cells ≤ c then (p, ok (-2)) else if c = p.water.boat ∨ c = p.water.mark then (p, ok (-3)) else if c ∈ p.water.shoals then (p, ok (-4)) else
    ({ p with water := { p.water with shoals := p.water.shoals ++ [c] } }, ok ((p.water.shoals.length + 1 : Nat) : Int)) := by
  show Uw32.ofWater p (.shoal c) = _
  unfold Uw32.ofWater Uw28.step
  simp only
  by_cases h1 : p.water.cells ≤ c
  · simp only [if_pos h1]; rfl
  · simp only [if_neg h1]
    by_cases h2 : c = p.water.boat ∨ c = p.water.mark
    · simp only [if_pos h2]; rfl
    · simp only [if_neg h2]
      by_cases h3 : c ∈ p.water.shoals
      · simp only [if_pos h3, if_pos (List.contains_iff_mem.mpr h3)]; rfl
      · simp only [if_neg h3, if_neg (fun e => h3 (List.contains_iff_mem.mp e))]; rfl
noncomputable def isRow (l : List Nat) (g : Nat) : Bool := decide (l.length ≤ 12) && l.all fun n => decide (n ≤ g)
theorem isRow_iff {l : List Nat} {g : Nat} : isRow l g = true ↔ l.length ≤ 12 ∧ ∀ n ∈ l, n ≤ g := by
  unfold isRow
  rw [Bool.and_eq_true, decide_eq_true_eq, List.all_eq_true]
  simp only [decide_eq_true_eq]
theorem row_cond (l : List Nat) (g : Nat) : (12 < l.length ∨ (l.all fun n => decide (n ≤ g)) = false) ↔ ¬ isRow l g = true := by
  unfold isRow
  by_cases h1 : l.length ≤ 12
  · cases (l.all fun n => decide (n ≤ g)) <;> simp [h1]
  · simp [h1]; omega
theorem step_winds (p : Pas) (l : List Nat) : Uw32.step p (.winds l) = if isRow l 7 = true then ({ p with water := { p.water with winds := l } }, ok ((l.length : Nat) : Int)) else (p, ok (-1)) := by
  show Uw32.ofWater p (.winds l) = _
  unfold Uw32.ofWater Uw28.step
  simp only
  by_cases h : isRow l 7 = true
  · have h' : ¬ (Uw28.WINDS < l.length ∨ (l.all fun n => decide (n ≤ 7)) = false) := fun q => (row_cond l 7).mp q h
    simp only [if_neg h', if_pos h]; rfl
  · have h' : Uw28.WINDS < l.length ∨ (l.all fun n => decide (n ≤ 7)) = false := (row_cond l 7).mpr h
    simp only [if_pos h', if_neg h]; rfl
theorem step_strong (p : Pas) (l : List Nat) : Uw32.step p (.strong l) = if isRow l 40 = true then ({ p with strong := l }, ok ((l.length : Nat) : Int)) else (p, ok (-1)) := by
  unfold Uw32.step
  simp only
  by_cases h : isRow l 40 = true
  · have h' : ¬ (Uw28.WINDS < l.length ∨ (l.all fun n => decide (n ≤ Uw29.WIND)) = false) := fun q => (row_cond l 40).mp q h
    simp only [if_neg h', if_pos h]
  · have h' : Uw28.WINDS < l.length ∨ (l.all fun n => decide (n ≤ Uw29.WIND)) = false := (row_cond l 40).mpr h
    simp only [if_pos h', if_neg h]
noncomputable def isBoat (a b c d k : Nat) : Bool := ((decide (1 ≤ a) && decide (a ≤ 9)) && ((decide (1 ≤ b) && decide (b ≤ 9)) && ((decide (1 ≤ c) && decide (c ≤ 9)) && (decide (1 ≤ d) && decide (d ≤ 9))))) && decide (k ≤ 9)
theorem isBoat_iff {a b c d k : Nat} : isBoat a b c d k = true ↔ ((1 ≤ a ∧ a ≤ 9) ∧ (1 ≤ b ∧ b ≤ 9) ∧ (1 ≤ c ∧ c ≤ 9) ∧ (1 ≤ d ∧ d ≤ 9)) ∧ k ≤ 9 := by
  unfold isBoat
  simp only [Bool.and_eq_true, decide_eq_true_eq]
theorem step_boat (p : Pas) (a b c d k : Nat) : Uw32.step p (.boat a b c d k) = if isBoat a b c d k = true then ({ p with water := { p.water with takes := [a, b, c, d], turn := k } }, ok 0) else (p, ok (-1)) := by
  show Uw32.ofWater p (.boat a b c d k) = _
  unfold Uw32.ofWater Uw28.step
  simp only
  have e : (([a, b, c, d].all fun n => decide (1 ≤ n) && decide (n ≤ Uw28.SLOW)) = false ∨ Uw28.SLOW < k) ↔ ¬ isBoat a b c d k = true := by
    rw [isBoat_iff]
    simp only [List.all_cons, List.all_nil, Bool.and_true, Bool.and_eq_false_iff, decide_eq_false_iff_not]
    show _ ∨ 9 < k ↔ _
    have : Uw28.SLOW = 9 := rfl
    rw [this]
    omega
  by_cases h : isBoat a b c d k = true
  · have h' := fun q => e.mp q h
    simp only [if_neg h', if_pos h]; rfl
  · have h' := e.mpr h
    simp only [if_pos h', if_neg h]; rfl
theorem step_places (p : Pas) (b m : Nat) : Uw32.step p (.places b m) = if p.water.cells ≤ b ∨ p.water.cells ≤ m then (p, ok (-2)) else if b ∈ p.water.shoals ∨ m ∈ p.water.shoals then (p, ok (-3)) else
    ({ p with water := { p.water with boat := b, mark := m } }, ok 0) := by
  show Uw32.ofWater p (.places b m) = _
  unfold Uw32.ofWater Uw28.step
  simp only [List.contains_iff_mem]
  by_cases h1 : p.water.cells ≤ b ∨ p.water.cells ≤ m
  · simp only [if_pos h1]; rfl
  · simp only [if_neg h1]
    by_cases h2 : b ∈ p.water.shoals ∨ m ∈ p.water.shoals
    · simp only [if_pos h2]; rfl
    · simp only [if_neg h2]; rfl
theorem step_sail (p : Pas) (x : Uw29.Sail) : Uw32.step p (.sail x) = if 40 < x.hi ∨ x.hi < x.lo ∨ 9 < x.cost then (p, ok (-1)) else if 3 ≤ p.sails.length then (p, ok (-5)) else ({ p with sails := p.sails ++ [x] }, ok ((p.sails.length : Nat) : Int)) := rfl
theorem step_change (p : Pas) (k : Nat) : Uw32.step p (.change k) = if 9 < k then (p, ok (-1)) else ({ p with change := k }, ok 0) := rfl
theorem step_check (p : Pas) (l : List (Nat × Nat)) : Uw32.step p (.check l) = if 40 < l.length ∨ (l.all fun x => decide (x.1 ≤ 7) && decide (x.2 < p.sails.length)) = false then (p, ok (-1)) else (p, match p.sails_ 0 0 p.water.boat 0 p.bare l with
    | .error n => ⟨-6, [n]⟩
    | .ok x => ⟨(x.1 : Nat), [x.2.1, x.2.2.1, x.2.2.2]⟩) := rfl
theorem good_step {p : Pas} (g : Good p) (c : Call) : Good (Uw32.step p c).1 := by
  cases c with
  | begins w h =>
    rw [step_begins]
    by_cases e : isExtent w = true ∧ isExtent h = true
    · rw [if_pos e]
      unfold isExtent at e
      simp only [Bool.and_eq_true, decide_eq_true_eq] at e
      exact good_laid e.1.1 e.1.2 e.2.1 e.2.2
    · rw [if_neg e]; exact g
  | shoal c =>
    rw [step_shoal]
    by_cases h1 : p.water.cells ≤ c
    · rw [if_pos h1]; exact g
    · rw [if_neg h1]
      by_cases h2 : c = p.water.boat ∨ c = p.water.mark
      · rw [if_pos h2]; exact g
      · rw [if_neg h2]
        by_cases h3 : c ∈ p.water.shoals
        · rw [if_pos h3]; exact g
        · rw [if_neg h3]
          refine ⟨g.w2, g.w4, g.h2, g.h4, fun d hd => ?_, ?_, fun hd => ?_, fun hd => ?_, g.wl, g.wi, g.tk, g.tn, g.bo, g.ma, g.sl, g.st, g.sn, g.sa, g.ch⟩
          · rcases List.mem_append.mp hd with q | q
            · exact g.sh d q
            · rw [List.mem_singleton.mp q]
              show c < p.water.cells
              omega
          · show (p.water.shoals ++ [c]).Nodup
            rw [List.nodup_append]
            refine ⟨g.shn, by simp, fun a ha b hb => ?_⟩
            rw [List.mem_singleton.mp hb]
            intro e
            exact h3 (e ▸ ha)
          · rcases List.mem_append.mp hd with q | q
            · exact g.shb q
            · exact h2 (.inl (List.mem_singleton.mp q).symm)
          · rcases List.mem_append.mp hd with q | q
            · exact g.shm q
            · exact h2 (.inr (List.mem_singleton.mp q).symm)
  | winds l =>
    rw [step_winds]
    by_cases h : isRow l 7 = true
    · rw [if_pos h]
      obtain ⟨h1, h2⟩ := isRow_iff.mp h
      exact ⟨g.w2, g.w4, g.h2, g.h4, g.sh, g.shn, g.shb, g.shm, h1, h2, g.tk, g.tn, g.bo, g.ma, g.sl, g.st, g.sn, g.sa, g.ch⟩
    · rw [if_neg h]; exact g
  | strong l =>
    rw [step_strong]
    by_cases h : isRow l 40 = true
    · rw [if_pos h]
      obtain ⟨h1, h2⟩ := isRow_iff.mp h
      exact ⟨g.w2, g.w4, g.h2, g.h4, g.sh, g.shn, g.shb, g.shm, g.wl, g.wi, g.tk, g.tn, g.bo, g.ma, h1, h2, g.sn, g.sa, g.ch⟩
    · rw [if_neg h]; exact g
  | boat a b c d k =>
    rw [step_boat]
    by_cases h : isBoat a b c d k = true
    · rw [if_pos h]
      obtain ⟨h1, h2⟩ := isBoat_iff.mp h
      exact ⟨g.w2, g.w4, g.h2, g.h4, g.sh, g.shn, g.shb, g.shm, g.wl, g.wi, ⟨a, b, c, d, rfl, h1⟩, h2, g.bo, g.ma, g.sl, g.st, g.sn, g.sa, g.ch⟩
    · rw [if_neg h]; exact g
  | places b m =>
    rw [step_places]
    by_cases h1 : p.water.cells ≤ b ∨ p.water.cells ≤ m
    · rw [if_pos h1]; exact g
    · rw [if_neg h1]
      by_cases h2 : b ∈ p.water.shoals ∨ m ∈ p.water.shoals
      · rw [if_pos h2]; exact g
      · rw [if_neg h2]
        exact ⟨g.w2, g.w4, g.h2, g.h4, g.sh, g.shn, fun q => h2 (.inl q), fun q => h2 (.inr q), g.wl, g.wi, g.tk, g.tn, Nat.lt_of_not_le fun q => h1 (.inl q), Nat.lt_of_not_le fun q => h1 (.inr q), g.sl, g.st, g.sn, g.sa, g.ch⟩
  | sail x =>
    rw [step_sail]
    by_cases h1 : 40 < x.hi ∨ x.hi < x.lo ∨ 9 < x.cost
    · rw [if_pos h1]; exact g
    · rw [if_neg h1]
      by_cases h2 : 3 ≤ p.sails.length
      · rw [if_pos h2]; exact g
      · rw [if_neg h2]
        refine ⟨g.w2, g.w4, g.h2, g.h4, g.sh, g.shn, g.shb, g.shm, g.wl, g.wi, g.tk, g.tn, g.bo, g.ma, g.sl, g.st, ?_, fun y hy => ?_, g.ch⟩
        · show (p.sails ++ [x]).length ≤ 3
          rw [List.length_append, List.length_singleton]
          omega
        · rcases List.mem_append.mp hy with q | q
          · exact g.sa y q
          · rw [List.mem_singleton.mp q]
            omega
  | change k =>
    rw [step_change]
    by_cases h : 9 < k
    · rw [if_pos h]; exact g
    · rw [if_neg h]
      exact ⟨g.w2, g.w4, g.h2, g.h4, g.sh, g.shn, g.shb, g.shm, g.wl, g.wi, g.tk, g.tn, g.bo, g.ma, g.sl, g.st, g.sn, g.sa, by show k ≤ 9; omega⟩
  | soonest => exact g
  | check l =>
    rw [step_check]
    split
    · exact g
    · exact g
theorem good_after {p : Pas} (g : Good p) : ∀ cs : List Call, Good (after p cs) := by
  intro cs
  induction cs generalizing p with
  | nil => exact g
  | cons c r ih => exact ih (good_step g c)
/-! ### places in the water -/
theorem side_lt (h w : Nat) : Uw28.side h w < 3 := by
  unfold Uw28.side
  simp only
  split
  · decide
  · split <;> decide
theorem sideOf_lt {s h w : Nat} (hs : s < 3) : Uw28.sideOf s h w < 3 := by
  unfold Uw28.sideOf
  split
  · exact hs
  · exact side_lt h w
theorem next_lt {p : Pas} (g : Good p) {c h d : Nat} (e : p.water.next c h = some d) : d < p.water.cells ∧ ¬ d ∈ p.water.shoals := by
  unfold Uw28.Water.next at e
  simp only at e
  by_cases h8 : 8 ≤ h
  · rw [if_pos h8] at e; cases e
  · rw [if_neg h8] at e
    generalize ex : ((c % p.water.wide : Nat) : Int) + (if h = 1 ∨ h = 2 ∨ h = 3 then 1 else if h = 5 ∨ h = 6 ∨ h = 7 then -1 else 0) = x at e
    generalize ey : ((c / p.water.wide : Nat) : Int) + (if h = 7 ∨ h = 0 ∨ h = 1 then -1 else if h = 3 ∨ h = 4 ∨ h = 5 then 1 else 0) = y at e
    by_cases hb : x < 0 ∨ (p.water.wide : Int) ≤ x ∨ y < 0 ∨ (p.water.high : Int) ≤ y
    · rw [if_pos hb] at e; cases e
    · rw [if_neg hb] at e
      by_cases hc : p.water.shoals.contains (y.toNat * p.water.wide + x.toNat) = true
      · rw [if_pos hc] at e; cases e
      · rw [if_neg hc] at e
        have e := Option.some.inj e
        subst e
        refine ⟨?_, fun q => hc (List.contains_iff_mem.mpr q)⟩
        unfold Uw28.Water.cells
        have h1 : y.toNat + 1 ≤ p.water.high := by omega
        have h2 : x.toNat < p.water.wide := by omega
        have h3 : (y.toNat + 1) * p.water.wide ≤ p.water.high * p.water.wide := Nat.mul_le_mul_right _ h1
        rw [Nat.succ_mul] at h3
        rw [Nat.mul_comm p.water.wide p.water.high]
        omega
theorem moves_mem {p : Pas} {x : Nat × Nat} (h : x ∈ p.moves) : x.1 < 8 ∧ x.2 < p.sails.length := by
  unfold Passage.moves at h
  obtain ⟨a, ha, hx⟩ := List.mem_flatMap.mp h
  obtain ⟨i, hi, rfl⟩ := List.mem_map.mp hx
  exact ⟨List.mem_range.mp ha, List.mem_range.mp hi⟩
end Pm

end
section
set_option linter.all false
/-! A call's flat numbers: its place, its count if it has a row, its numbers. -/
namespace Pm
noncomputable def tag : Call → Nat
  | .begins _ _ => 0
  | .shoal _ => 1
  | .winds _ => 2
  | .strong _ => 3
  | .boat _ _ _ _ _ => 4
  | .places _ _ => 5
  | .sail _ => 6
  | .change _ => 7
  | .soonest => 8
  | .check _ => 9
noncomputable def nums : Call → List Nat
  | .begins w h => [w, h]
  | .shoal c => [c]
  | .winds l => l
  | .strong l => l
  | .boat a b c d k => [a, b, c, d, k]
  | .places b m => [b, m]
  | .sail x => [x.lo, x.hi, x.cost]
  | .change k => [k]
  | .soonest => []
  | .check l => Uw32.flat l
noncomputable def rowed : Call → Bool
  | .winds _ => true
  | .strong _ => true
  | .check _ => true
  | _ => false
noncomputable def headOf (c : Call) : List Int := if rowed c = true then [(tag c : Int), ((nums c).length : Int)] else [(tag c : Int)]
theorem enc_eq (c : Call) : enc c = headOf c ++ intsN (nums c) := by
  cases c <;> rfl
theorem headOf_length (c : Call) : (headOf c).length = if rowed c = true then 2 else 1 := by
  cases c <;> rfl
theorem ints_length (l : List Nat) : (intsN l).length = l.length := List.length_map ..
theorem enc_length (c : Call) : (enc c).length = (if rowed c = true then 2 else 1) + (nums c).length := by
  rw [enc_eq, List.length_append, headOf_length, ints_length]
theorem enc_head (c : Call) : ∃ r, enc c = (tag c : Int) :: r := by
  cases c <;> exact ⟨_, rfl⟩
theorem enc_pos (c : Call) : 1 ≤ (enc c).length := by
  obtain ⟨r, e⟩ := enc_head c
  rw [e]
  exact Nat.succ_le_succ (Nat.zero_le _)
theorem way_len (p : Pas) (tab : List (List (Option Nat))) (v : Nat) : ∀ f t c s b, (p.way tab v f t c s b).length ≤ f
  | 0, _, _, _, _ => Nat.le_refl _
  | f + 1, t, c, s, b => by
    unfold Uw32.Passage.way
    split
    · exact Nat.zero_le _
    · split
      · split
        · rw [List.length_cons]
          exact Nat.succ_le_succ (way_len p tab v f _ _ _ _)
        · exact Nat.zero_le _
      · exact Nat.zero_le _
theorem out_len (p : Pas) (c : Call) : (out (Uw32.step p c).2).length ≤ 81 := by
  have e : ∀ a : Uw32.Ans, (out a).length = a.l.length + 1 := fun a => by
    unfold out Uw32Neutral.out
    rw [List.length_cons, List.length_map]
  rw [e]
  have h0 : (Uw32.ok 0).l = [] := rfl
  cases c with
  | begins w h => rw [step_begins]; split <;> exact (by decide : 0 + 1 ≤ 81)
  | shoal c => rw [step_shoal]; (repeat' split) <;> exact (by decide : 0 + 1 ≤ 81)
  | winds l => rw [step_winds]; split <;> exact (by decide : 0 + 1 ≤ 81)
  | strong l => rw [step_strong]; split <;> exact (by decide : 0 + 1 ≤ 81)
  | boat a b c d k => rw [step_boat]; split <;> exact (by decide : 0 + 1 ≤ 81)
  | places b m => rw [step_places]; (repeat' split) <;> exact (by decide : 0 + 1 ≤ 81)
  | sail x => rw [step_sail]; (repeat' split) <;> exact (by decide : 0 + 1 ≤ 81)
  | change k => rw [step_change]; split <;> exact (by decide : 0 + 1 ≤ 81)
  | soonest =>
    rw [step_soonest]
    split
    · exact (by decide : 0 + 1 ≤ 81)
    · show (Uw32.flat _).length + 1 ≤ 81
      rw [flat_len]
      have := way_len p (p.tables 40) (by assumption) 40 0 p.water.boat 0 p.bare
      omega
  | check l =>
    rw [step_check]
    split
    · exact (by decide : 0 + 1 ≤ 81)
    · show (match p.sails_ 0 0 p.water.boat 0 p.bare l with | .error n => (⟨-6, [n]⟩ : Uw32.Ans) | .ok x => ⟨(x.1 : Nat), [x.2.1, x.2.2.1, x.2.2.2]⟩).l.length + 1 ≤ 81
      split
      · exact (by decide : 1 + 1 ≤ 81)
      · exact (by decide : 3 + 1 ≤ 81)
theorem given_len : ∀ (p : Pas) (cs : List Call), (given p cs).length ≤ 82 * cs.length
  | _, [] => Nat.le_refl _
  | p, c :: r => by
    have h1 := given_len (Uw32.step p c).1 r
    have h2 := out_len p c
    show (_ :: (out (Uw32.step p c).2 ++ given (Uw32.step p c).1 r)).length ≤ _
    rw [List.length_cons, List.length_append, List.length_cons]
    omega
end Pm

end
section
set_option linter.all false
/-! A step, told as the program has it: what a minute lets begin, the room, what comes of it. -/
namespace Pm
open Uw32
noncomputable def ei (p : Pas) (m h : Nat) : Nat := (h + 8 - p.water.wind m) % 8
theorem ei_lt (p : Pas) (m h : Nat) : ei p m h < 8 := Nat.mod_lt _ (by decide)
/-- what a minute lets begin: the side of it, the minutes of it -/
noncomputable def info (p : Pas) (m : Nat) (x : Nat × Nat) : Option (Nat × Nat) := if ei p m x.1 = 0 ∨ Uw29.stands (p.sail x.2) (p.blows m) = false then none else
  some (Uw28.side x.1 (p.water.wind m), p.water.takes.getD (Uw28.point x.1 (p.water.wind m) - 1) 1 + (p.sail x.2).cost)
theorem point_ei (p : Pas) (m h : Nat) : Uw28.point h (p.water.wind m) = min (ei p m h) (8 - ei p m h) := rfl
theorem side_ei (p : Pas) (m h : Nat) : Uw28.side h (p.water.wind m) = if ei p m h = 0 ∨ ei p m h = 4 then 0 else if ei p m h < 4 then 1 else 2 := rfl
noncomputable def tn (s sd : Nat) : Bool := s != 0 && (sd != 0 && s != sd)
/-- the minutes behind a step, from a stand -/
noncomputable def later (p : Pas) (m s b i sd k : Nat) : Nat := m + k + (if tn s sd = true then p.water.turn else 0) + (if i ≠ b then p.change else 0)
theorem step_info {p : Pas} {m s b h i : Nat} (hi : i < p.sails.length) : p.step_ m s b h i = (info p m (h, i)).map fun q => q.2 + (if tn s q.1 = true then p.water.turn else 0) + (if i ≠ b then p.change else 0) := by
  unfold Passage.step_ info
  have h0 : (Uw28.point h (p.water.wind m) = 0) ↔ ei p m h = 0 := by
    rw [point_ei]
    have := ei_lt p m h
    omega
  by_cases hs : Uw29.stands (p.sail i) (p.blows m) = false
  · rw [if_pos (Or.inr hs)]
    simp only [hs, or_true, if_true]
    rfl
  · rw [if_neg (fun z => z.elim (fun y => absurd y (Nat.not_le.mpr hi)) hs)]
    by_cases he : ei p m h = 0
    · simp only [he, true_or, if_true]
      unfold Uw28.Water.step_
      simp only
      rw [if_pos (h0.mpr he)]
      rfl
    · have : ¬ (ei p m h = 0 ∨ Uw29.stands (p.sail i) (p.blows m) = false) := fun z => z.elim he hs
      simp only [this, if_false]
      unfold Uw28.Water.step_
      simp only
      rw [if_neg (fun z => he (h0.mp z))]
      have et : Uw28.turns s h (p.water.wind m) = tn s (Uw28.side h (p.water.wind m)) := rfl
      have eb : (if b = i then 0 else p.change) = if i ≠ b then p.change else 0 := by
        by_cases hb : b = i
        · rw [if_pos hb, if_neg (fun z => z hb.symm)]
        · rw [if_neg hb, if_pos (Ne.symm hb)]
      rw [et]
      simp only [Option.map_some]
      rw [eb]
      generalize (if tn s (Uw28.side h (p.water.wind m)) = true then p.water.turn else 0) = u
      generalize (if i ≠ b then p.change else 0) = v
      congr 1
      omega
/-- to the right, down -/
noncomputable def rt (h : Nat) : Int := if h = 1 ∨ h = 2 ∨ h = 3 then 1 else if h = 5 ∨ h = 6 ∨ h = 7 then -1 else 0
noncomputable def dn (h : Nat) : Int := if h = 7 ∨ h = 0 ∨ h = 1 then -1 else if h = 3 ∨ h = 4 ∨ h = 5 then 1 else 0
noncomputable def cb (p : Pas) (c h : Nat) : Int := (c : Int) + dn h * (p.water.wide : Int) + rt h
noncomputable def off (p : Pas) (c h : Nat) : Prop := ((c % p.water.wide : Nat) : Int) + rt h < 0 ∨ (p.water.wide : Int) ≤ ((c % p.water.wide : Nat) : Int) + rt h ∨ ((c / p.water.wide : Nat) : Int) + dn h < 0 ∨ (p.water.high : Int) ≤ ((c / p.water.wide : Nat) : Int) + dn h
noncomputable instance (p : Pas) (c h : Nat) : Decidable (off p c h) := by unfold off; infer_instance
theorem next_off {p : Pas} {c h : Nat} (h8 : h < 8) (ho : off p c h) : p.water.next c h = none := by
  unfold Uw28.Water.next
  rw [if_neg (by omega)]
  simp only
  exact if_pos ho
theorem next_on {p : Pas} {c h : Nat} (h8 : h < 8) (ho : ¬ off p c h) : ∃ n : Nat, cb p c h = (n : Int) ∧ p.water.next c h = if n ∈ p.water.shoals then none else some n := by
  have h1 : 0 ≤ ((c % p.water.wide : Nat) : Int) + rt h ∧ 0 ≤ ((c / p.water.wide : Nat) : Int) + dn h := by
    unfold off at ho
    omega
  refine ⟨(((c / p.water.wide : Nat) : Int) + dn h).toNat * p.water.wide + (((c % p.water.wide : Nat) : Int) + rt h).toNat, ?_, ?_⟩
  · rw [Int.natCast_add, Int.natCast_mul, Int.toNat_of_nonneg h1.2, Int.toNat_of_nonneg h1.1]
    unfold cb
    have e : (c : Int) = (p.water.wide : Int) * ((c / p.water.wide : Nat) : Int) + ((c % p.water.wide : Nat) : Int) := by
      rw [← Int.natCast_mul, ← Int.natCast_add, Nat.div_add_mod]
    rw [Int.add_mul, Int.mul_comm ((c / p.water.wide : Nat) : Int)]
    omega
  · unfold Uw28.Water.next
    rw [if_neg (by omega)]
    simp only
    refine (if_neg ho).trans ?_
    simp only [List.contains_iff_mem]
    rfl
end Pm

end
section
set_option Elab.async false
set_option linter.all false
set_option maxRecDepth 100000
set_option maxHeartbeats 2000000
/-! More rules over the layer: min and max of a list of ints, max with a default. -/
namespace Pa
open PySem PySem.Spec PyProof.Rows L2
section
variable {X : Cx}
theorem call_maxL (hc : X.calm = true) : CallR X (.builtin "max") (fun xs H Q => ∃ (p : Addr) (ns : List Int), xs = [.ref p] ∧ SqL X.K H p (ns.map V.int) ∧ 0 < ns.length ∧ ∀ M, M ∈ ns → (∀ a ∈ ns, a ≤ M) → Q (.int M) H) := by
  intro pins s σ H xs us Q I r h
  obtain ⟨p, ns, rfl, hq, hne, q⟩ := h
  obtain ⟨u, rfl, rx⟩ := vals1 r
  cases rx
  obtain ⟨its, r', pl, hz⟩ := I.list hq
  have hi : IntsAre its ns := intsAre_of r'
  have hl := pl.isList
  obtain ⟨ys, e⟩ := hi.allInts.items
  have hns : ns = ys.toList.map (·.1) := by
    rw [← hi.numsOf, ← nums_intItems, ← e]
  have hsz : 0 < ys.size := by
    have h3 := hne; rw [hns, List.length_map, Array.length_toList] at h3; exact h3
  rw [e] at hl
  refine max_intList (I.ok.hd hc) hl hsz fun v h' tk hv hk => ?_
  obtain ⟨t, rfl⟩ := intItems_at hv
  obtain ⟨h1, h2⟩ := argBest_gt (numAt ys) (ys.size - 1)
  refine ⟨.int _, H, I.kept hk, ⟨t, rfl⟩, q _ ?_ fun a ha => ?_⟩
  · rw [hns, numAt_eq]; exact getD_mem (by rw [List.length_map, Array.length_toList]; omega)
  · rw [hns] at ha
    obtain ⟨j, hj, rfl⟩ := mem_getD ha
    rw [List.length_map, Array.length_toList] at hj
    rw [← numAt_eq]; exact h2 j (by omega)
theorem call_minL (hc : X.calm = true) : CallR X (.builtin "min") (fun xs H Q => ∃ (p : Addr) (ns : List Int), xs = [.ref p] ∧ SqL X.K H p (ns.map V.int) ∧ 0 < ns.length ∧ ∀ M, M ∈ ns → (∀ a ∈ ns, M ≤ a) → Q (.int M) H) := by
  intro pins s σ H xs us Q I r h
  obtain ⟨p, ns, rfl, hq, hne, q⟩ := h
  obtain ⟨u, rfl, rx⟩ := vals1 r
  cases rx
  obtain ⟨its, r', pl, hz⟩ := I.list hq
  have hi : IntsAre its ns := intsAre_of r'
  have hl := pl.isList
  obtain ⟨ys, e⟩ := hi.allInts.items
  have hns : ns = ys.toList.map (·.1) := by
    rw [← hi.numsOf, ← nums_intItems, ← e]
  have hsz : 0 < ys.size := by
    have h3 := hne; rw [hns, List.length_map, Array.length_toList] at h3; exact h3
  rw [e] at hl
  refine min_intList (I.ok.hd hc) hl hsz fun v h' tk hv hk => ?_
  obtain ⟨t, rfl⟩ := intItems_at hv
  obtain ⟨h1, h2⟩ := argBest_lt (numAt ys) (ys.size - 1)
  refine ⟨.int _, H, I.kept hk, ⟨t, rfl⟩, q _ ?_ fun a ha => ?_⟩
  · rw [hns, numAt_eq]; exact getD_mem (by rw [List.length_map, Array.length_toList]; omega)
  · rw [hns] at ha
    obtain ⟨j, hj, rfl⟩ := mem_getD ha
    rw [List.length_map, Array.length_toList] at hj
    rw [← numAt_eq]; exact h2 j (by omega)
end
/-! ### max(xs, default=d) -/
section
variable {prog : Program} {w : World} {A : Around} {R : Result → Shared → Prop} {I : Addr} {fp wr : List Addr} {n : Nat} {P : Nat → Value → Prop} {St : Nat → Heap → Prop}
theorem max_loop_kw (kw : List (Str × Value)) (W : Walks prog w A.in1 I fp wr n P St) (bt : Nat → Nat → Bool) (hcmp : CmpOf prog w A.in1 .Gt P bt) (S : Addr) (hSf : S ∉ fp) :
    ∀ (k j : Nat) (s : Shared) (vb : Value) (c : Nat), n - (j + 1) = k → j + 1 ≤ n → St (j + 1) s.heap → P (argBest bt j) vb →
    s.heap.get? S = some { cls := .type "list", dict := none, data := .seq #[vb, vb] c, slots := #[] } →
    (∀ v h' tk, P (argBest bt (n - 1)) v → (∀ b o, b ∉ wr → b ≠ S → s.heap.get? b = some o → h'.get? b = some o) → R (.ok (.ret v)) { s with heap := h', toks := tk }) →
    codeAny (model prog w) A (.builtin "max.loop" ⟨[.ref I, .none, .ref S], kw⟩) R s := by
  have hSw : S ∉ wr := fun h => hSf (W.sub _ h)
  have hname : (toString "max" ++ toString ".loop" : String) = "max.loop" := by decide
  intro k
  induction k with
  | zero =>
    intro j s vb c hk hj hst hPb hS hR
    have hin : j + 1 = n := by omega
    refine codeAny_builtin PySem.F.entry_max_loop ?_
    rw [Around.under_plainId PySem.F.plain_max_loop _]
    show wpAny _ A.in1 (seqItems? (.ref S) >>= _) _ _ s
    refine wpAny_bind (wpAny_seqItems hS rfl ?_)
    show wpAny _ A.in1 (tryCatch (pyNext (.ref I)) _ >>= _) _ _ s
    refine wpAny_bind (wpAny_tryCatch (W.done s _ _ (hin ▸ hst) fun h' tk hk' => ?_))
    have hS' := hk' S _ hSw hS
    show wpAny _ A.in1 (updateSeq S (fun _ => #[]) >>= _) _ _ _
    refine wpAny_bind ?_
    refine wpAny_updateSeq hS' rfl (wpAny_bind (wpAny_letGo (wpAny_pure ?_)))
    refine hR vb _ tk (by rw [← hin]; exact hPb) fun b o hbw hbS e => (Heap.get?_update_other _ _ (Ne.symm hbS)).trans (hk' b o hbw e)
  | succ k ih =>
    intro j s vb c hk hj hst hPb hS hR
    have hlt : j + 1 < n := by omega
    refine codeAny_builtin PySem.F.entry_max_loop ?_
    rw [Around.under_plainId PySem.F.plain_max_loop _]
    show wpAny _ A.in1 (seqItems? (.ref S) >>= _) _ _ s
    refine wpAny_bind (wpAny_seqItems hS rfl ?_)
    show wpAny _ A.in1 (tryCatch (pyNext (.ref I)) _ >>= _) _ _ s
    refine wpAny_bind (wpAny_tryCatch (W.item (j + 1) s _ _ hlt hst fun v h' tk hP hst' hk' => ?_))
    have hS' := hk' S _ hSw hS
    show wpAny _ A.in1 (tryCatch (holding [v, v] (richCompare .Gt v vb >>= _)) _ >>= _) _ _ _
    refine wpAny_bind (wpAny_tryCatch (wpAny_holding (wpAny_bind (hcmp (j + 1) (argBest bt j) v vb _ _ _ hP hPb ?_))))
    refine wpAny_bind (wpAny_holding (wpAny_truthy_bool ?_))
    refine wpAny_bind (wpAny_letGo (wpAny_pure ?_))
    cases hb : bt (j + 1) (argBest bt j) with
    | true =>
      simp only [if_true]
      refine wpAny_bind ?_
      refine wpAny_updateSeq hS' rfl (wpAny_bind (wpAny_letGo ?_))
      rw [hname]
      refine wpAny_pure ⟨plainId_quiet PySem.F.plain_max_loop _, ih (j + 1) _ v _ (by omega) hlt (W.frame _ _ _ hst' fun b hbf o e => ?_) (by simp only [argBest, hb, if_true]; exact hP) (Heap.get?_update_self _ hS' rfl)
        fun v' h'' tk'' hP' hk'' => ?_⟩
      · exact (Heap.get?_update_other _ _ (fun h : S = b => hSf (by rw [h]; exact hbf))).trans e
      · exact hR v' h'' tk'' hP' fun b o hbw hbS e => hk'' b o hbw hbS ((Heap.get?_update_other _ _ (Ne.symm hbS)).trans (hk' b o hbw e))
    | false =>
      simp only [Bool.false_eq_true, if_false]
      refine wpAny_bind (wpAny_letGo ?_)
      rw [hname]
      refine wpAny_pure ⟨plainId_quiet PySem.F.plain_max_loop _, ih (j + 1) _ vb c (by omega) hlt hst' (by simp only [argBest, hb, Bool.false_eq_true, if_false]; exact hPb) hS' fun v' h'' tk'' hP' hk'' => ?_⟩
      exact hR v' h'' tk'' hP' fun b o hbw hbS e => hk'' b o hbw hbS (hk' b o hbw e)
theorem max_first_kw (kw : List (Str × Value)) (W : Walks prog w A.in1 I fp wr n P St) (bt : Nat → Nat → Bool) (hcmp : CmpOf prog w A.in1 .Gt P bt) (S : Addr) (hSf : S ∉ fp) (hn : 0 < n) {s : Shared} {c : Nat} (hst : St 0 s.heap)
    (hS : s.heap.get? S = some { cls := .type "list", dict := none, data := .seq #[] c, slots := #[] })
    (hR : ∀ v h' tk, P (argBest bt (n - 1)) v → (∀ b o, b ∉ wr → b ≠ S → s.heap.get? b = some o → h'.get? b = some o) → R (.ok (.ret v)) { s with heap := h', toks := tk }) :
    codeAny (model prog w) A (.builtin "max.loop" ⟨[.ref I, .none, .ref S], kw⟩) R s := by
  have hSw : S ∉ wr := fun h => hSf (W.sub _ h)
  have hname : (toString "max" ++ toString ".loop" : String) = "max.loop" := by decide
  refine codeAny_builtin PySem.F.entry_max_loop ?_
  rw [Around.under_plainId PySem.F.plain_max_loop _]
  show wpAny _ A.in1 (seqItems? (.ref S) >>= _) _ _ s
  refine wpAny_bind (wpAny_seqItems hS rfl ?_)
  show wpAny _ A.in1 (tryCatch (pyNext (.ref I)) _ >>= _) _ _ s
  refine wpAny_bind (wpAny_tryCatch (W.item 0 s _ _ hn hst fun v h' tk hP hst' hk' => ?_))
  have hS' := hk' S _ hSw hS
  show wpAny _ A.in1 (updateSeq S (fun _ => #[v, v]) >>= _) _ _ _
  refine wpAny_bind ?_
  refine wpAny_updateSeq hS' rfl ?_
  rw [hname]
  refine wpAny_pure ⟨plainId_quiet PySem.F.plain_max_loop _, max_loop_kw kw W bt hcmp S hSf _ 0 _ v _ rfl hn (W.frame _ _ _ hst' fun b hbf o e => ?_) hP (Heap.get?_update_self _ hS' rfl) fun v' h'' tk'' hP' hk'' => ?_⟩
  · exact (Heap.get?_update_other _ _ (fun h : S = b => hSf (by rw [h]; exact hbf))).trans e
  · exact hR v' h'' tk'' hP' fun b o hbw hbS e => hk'' b o hbw hbS ((Heap.get?_update_other _ _ (Ne.symm hbS)).trans (hk' b o hbw e))
theorem max_none_kw (d : Value) (W : Walks prog w A.in1 I fp wr 0 P St) (S : Addr) (hSf : S ∉ fp) {s : Shared} {c : Nat} (hst : St 0 s.heap)
    (hS : s.heap.get? S = some { cls := .type "list", dict := none, data := .seq #[] c, slots := #[] })
    (hR : ∀ h' tk, (∀ b o, b ∉ wr → s.heap.get? b = some o → h'.get? b = some o) → R (.ok (.ret d)) { s with heap := h', toks := tk }) :
    codeAny (model prog w) A (.builtin "max.loop" ⟨[.ref I, .none, .ref S], [(Str.ofString "default", d)]⟩) R s := by
  have hname : (toString "max" ++ toString ".loop" : String) = "max.loop" := by decide
  refine codeAny_builtin PySem.F.entry_max_loop ?_
  rw [Around.under_plainId PySem.F.plain_max_loop _]
  show wpAny _ A.in1 (seqItems? (.ref S) >>= _) _ _ s
  refine wpAny_bind (wpAny_seqItems hS rfl ?_)
  show wpAny _ A.in1 (tryCatch (pyNext (.ref I)) _ >>= _) _ _ s
  refine wpAny_bind (wpAny_tryCatch (W.done s _ _ hst fun h' tk hk' => ?_))
  refine wpAny_bind (wpAny_rule (wpAny_pure ?_))
  exact hR h' tk hk'
end
section
variable {prog : Program} {w : World} {A : Around} {E : Value → Shared → Prop} {s : Shared} {l : Addr} {xs : Array (Int × Tok)}
theorem args_max_dflt (a v : Value) : argsOk "max" ⟨[a], [(Str.ofString "default", v)]⟩ := by unfold argsOk; kernel_rfl
theorem max_dflt {d : Value} {Q : Value → Shared → Prop} (hh : A.handled = none) (hl : s.heap.IsList l (intItems xs))
    (h0 : xs.size = 0 → ∀ h' tk, (∀ b o, s.heap.get? b = some o → h'.get? b = some o) → Q d { s with heap := h', toks := tk })
    (h : 0 < xs.size → ∀ v h' tk, (intItems xs)[argBest (fun i j => decide (numAt xs i > numAt xs j)) (xs.size - 1)]? = some v → (∀ b o, s.heap.get? b = some o → h'.get? b = some o) → Q v { s with heap := h', toks := tk }) :
    wpAny (model prog w) A (call (.builtin "max") [.ref l] [(Str.ofString "default", d)]) Q E s := by
  have hname : (toString "max" ++ toString ".loop" : String) = "max.loop" := by decide
  refine kmk_tree PySem.F.kind_max PySem.F.plain_max PySem.F.entry_max (args_max_dflt _ _) ?_
  show wpAny _ A.in1 (Builtin.Builtins.bindParams "max" ["key", "default"] 0 ⟨[], [(Str.ofString "default", d)]⟩ >>= _) _ _ s
  refine wpAny_bind (wpAny_of_eq (show Builtin.Builtins.bindParams "max" ["key", "default"] 0 ⟨[], [(Str.ofString "default", d)]⟩ = pure [none, some d] from rfl) ?_)
  refine wpAny_bind (wpAny_pure ?_)
  refine wpAny_bind (iter_intList hl fun s₂ e st hfp hlI => ?_)
  subst e
  have W := Walks.list (prog := prog) (w := w) (A := A.in1) hh _ l hlI (intItems xs)
  refine wpAny_bind (wpAny_newObj_type ?_)
  have hSf : (s.heap.push { cls := .type "list_iterator", data := .fields #[.ref l, .int 0 0] }).objs.size ∉ [s.heap.objs.size, l] := fun hm => Nat.lt_irrefl _ (hfp _ hm)
  rw [hname]
  refine wpAny_pure ⟨plainId_quiet PySem.F.plain_max_loop _, ?_⟩
  by_cases hz : xs.size = 0
  · have hn : (intItems xs).size = 0 := by simpa [intItems] using hz
    rw [hn] at W
    refine max_none_kw d W _ hSf (W.frame _ _ _ st fun b _ o e => Heap.get?_push_of_some _ e) (Heap.get?_push_size _ rfl) fun h' tk hk => ?_
    refine h0 hz h' tk (old_kept fun b o hb e => hk b o hb (Heap.get?_push_of_some _ e))
  · refine max_first_kw _ W _ (CmpOf.ints_gt (numAt xs) (fun _ _ => intItems_at)) _ hSf (by simpa [intItems] using Nat.pos_of_ne_zero hz) (W.frame _ _ _ st fun b _ o e => Heap.get?_push_of_some _ e) (Heap.get?_push_size _ rfl) fun v h' tk hP hk => ?_
    refine h (Nat.pos_of_ne_zero hz) v h' tk (by simpa [intItems] using hP) (old_kept fun b o hb e => hk b o hb (Nat.ne_of_lt (Heap.lt_size e)) (Heap.get?_push_of_some _ e))
end
section
variable {X : Cx} {e d : Expr} {td : TE} {ta : TA} {p pos kp : Pos}
noncomputable def tMaxD (K : PySem.W.Frag) (ta : TA) (td : TE) : TE := fun σ H Q => ta σ H fun vs H1 => td σ H1 fun y H2 => ∃ (a : Addr) (ns : List Int) (z : Int), vs = [.ref a] ∧ y = .int z ∧ SqL K H2 a (ns.map V.int) ∧
  ∀ M, (ns = [] → M = z) → (ns ≠ [] → M ∈ ns ∧ ∀ b ∈ ns, b ≤ M) → Q (.int M) H2
theorem pe_maxD (hc : X.calm = true) (hg : Gl X "max") (hm : X.mg "max" = none) (ha : PA X [e] ta) (hd : PE X d td)
    (he : backTo pos (starEach [e] X.env) = (false, eval e X.env) :: backTo pos (starEach [] X.env) := by rfl) (hpl : (backTo pos (starEach [e] X.env)).any (·.1) = false := by rfl) :
    PE X (.Call (.Name "max" p) [e] [⟨some "default", d, kp⟩] pos) (tMaxD X.K ta td) := by
  intro pins s σ H Q I h
  refine wpAny_Call_Name_kw (ld_blt I hg hm PyProof.Rows.boot_max ?_)
  refine callWith_kw (thn (ha pos pins s σ H _ I h) fun us s1 ⟨vs, H1, I1, r1, q1⟩ => ?_) he hpl
  refine kws_cons (thn (hd pins s1 σ H1 _ I1 q1) fun dv s2 ⟨y, H2, I2, r2, q2⟩ => kws_nil ?_)
  obtain ⟨a, ns, z, rfl, rfl, hq, q⟩ := q2
  obtain ⟨u, rfl, rx⟩ := vals1 r1
  cases rx
  obtain ⟨tz, rfl⟩ := r2
  obtain ⟨its, r', pl, hz⟩ := I2.list hq
  have hi : IntsAre its ns := intsAre_of r'
  have hl := pl.isList
  obtain ⟨ys, e⟩ := hi.allInts.items
  have hns : ns = ys.toList.map (·.1) := by
    rw [← hi.numsOf, ← nums_intItems, ← e]
  rw [e] at hl
  show wpAny _ _ (call (.builtin "max") [.ref a] [(Str.ofString "default", .int z tz)]) _ _ s2
  refine max_dflt (I2.ok.hd hc) hl (fun h0 h' tk hk => ?_) fun hsz v h' tk hv hk => ?_
  · have en : ns = [] := by
      rw [hns]
      apply List.eq_nil_of_length_eq_zero
      rw [List.length_map, Array.length_toList]
      exact h0
    exact ⟨.int z, H2, I2.kept hk, ⟨tz, rfl⟩, q z (fun _ => rfl) fun hne => absurd en hne⟩
  · obtain ⟨t, rfl⟩ := intItems_at hv
    obtain ⟨h1, h2⟩ := argBest_gt (numAt ys) (ys.size - 1)
    refine ⟨.int _, H2, I2.kept hk, ⟨t, rfl⟩, q _ (fun en => ?_) fun _ => ⟨?_, fun a ha => ?_⟩⟩
    · exfalso
      have := congrArg List.length (hns.symm.trans en)
      rw [List.length_map, Array.length_toList] at this
      exact absurd (show ys.size = 0 from this) (Nat.ne_of_gt hsz)
    · rw [hns, numAt_eq]; exact getD_mem (by rw [List.length_map, Array.length_toList]; omega)
    · rw [hns] at ha
      obtain ⟨j, hj, rfl⟩ := mem_getD ha
      rw [List.length_map, Array.length_toList] at hj
      rw [← numAt_eq]; exact h2 j (by omega)
end
end Pa

end
section
set_option Elab.async false
set_option linter.all false
set_option maxRecDepth 100000
set_option maxHeartbeats 2000000
/-! More rules: lists of ints by their order, the least of a list of such lists, every second item. -/
namespace Pa
open PySem PySem.Spec PyProof.Rows L2
section
open PySem.SeqAt
open PySem.AutoSeq1 (wpAny_loadPart')
open PySem.MeetsSeq PySem.MeetsSeq2 PySem.MeetsSeq3
theorem ints_at {vs : List Value} {ns : List Int} (h : IntsAre vs ns) : ∀ i : Nat, (vs[i]? = none ∧ ns[i]? = none) ∨ ∃ z t, vs[i]? = some (.int z t) ∧ ns[i]? = some z := by
  induction h with
  | nil => intro i; exact .inl ⟨by simp, by simp⟩
  | @cons a t vs ns h ih =>
    intro i
    cases i with
    | zero => exact .inr ⟨_, _, rfl, rfl⟩
    | succ j => simpa using ih j
theorem drop_some {l : List Int} {i : Nat} {z : Int} (h : l[i]? = some z) : l.drop i = z :: l.drop (i + 1) := by
  obtain ⟨hi, e⟩ := List.getElem?_eq_some_iff.mp h
  rw [List.drop_eq_getElem_cons hi, e]
theorem drop_none {l : List Int} {i : Nat} (h : l[i]? = none) : l.drop i = [] := List.drop_eq_nil_of_le (List.getElem?_eq_none_iff.mp h)
theorem lex_loop (p q : Addr) (as bs : Array Value) (n1 n2 : Nat) (ns ms : List Int) (ha : IntsAre as.toList ns) (hb : IntsAre bs.toList ms) (k : Nat) :
    ∀ i : Nat, i ≤ as.size → i ≤ bs.size → as.size - i = k → Meets (Builtin.«list.__eq__.loop» ⟨[.ref p, .ref q, rawInt i, rawInt 0], []⟩)
      (fun A R s => s.heap.get? p = some { cls := .type "list", dict := none, data := .seq as n1, slots := #[] } ∧ s.heap.get? q = some { cls := .type "list", dict := none, data := .seq bs n2, slots := #[] } ∧
        R (.ok (.ret (.bool (HT.lexLt (ns.drop i) (ms.drop i))))) s) := by
  have za : as.size = ns.length := by rw [← ha.length]; simp
  have zb : bs.size = ms.length := by rw [← hb.length]; simp
  induction k with
  | zero =>
    intro i hia hib hk prog w A R s h
    obtain ⟨hp, g, d, tk, os⟩ := s; obtain ⟨e1, e2, h⟩ := h
    wp_walk using wpAny_loadPart' e1, wpAny_loadPart' e2
    have i1 : as[((i : Nat) : Int).toNat]? = none := by simp; omega
    rw [i1]
    have d1 : ns.drop i = [] := List.drop_eq_nil_of_le (by omega)
    rw [d1] at h
    wp_walk using wpAny_loadPart' e1, wpAny_loadPart' e2
    show R (.ok (.ret (.bool (decide (as.size < bs.size))))) _
    have e : decide (as.size < bs.size) = HT.lexLt [] (ms.drop i) := by
      cases hd : ms.drop i with
      | nil =>
        have : ms.length - i = 0 := by rw [← List.length_drop, hd]; rfl
        exact decide_eq_false (by omega)
      | cons y ys =>
        have : ms.length - i = ys.length + 1 := by rw [← List.length_drop, hd]; rfl
        exact decide_eq_true (by omega)
    rw [e]
    exact h
  | succ k ih =>
    intro i hia hib hk prog w A R s h
    obtain ⟨hp, g, d, tk, os⟩ := s; obtain ⟨e1, e2, h⟩ := h
    wp_walk using wpAny_loadPart' e1, wpAny_loadPart' e2
    obtain ⟨x, t, q1, n1'⟩ : ∃ x t, as.toList[i]? = some (.int x t) ∧ ns[i]? = some x := by
      rcases ints_at ha i with ⟨q, _⟩ | q
      · rw [List.getElem?_eq_none_iff, Array.length_toList] at q
        omega
      · exact q
    have i1 : as[((i : Nat) : Int).toNat]? = some (.int x t) := by simpa using q1
    rw [i1]
    rcases ints_at hb i with ⟨q2, m1⟩ | ⟨y, u, q2, m1⟩
    · have i2 : bs[((i : Nat) : Int).toNat]? = none := by simpa using q2
      rw [i2]
      rw [drop_none m1, drop_some n1'] at h
      wp_walk using wpAny_loadPart' e1, wpAny_loadPart' e2
      show R (.ok (.ret (.bool (decide (as.size < bs.size))))) _
      rw [decide_eq_false (by rw [List.getElem?_eq_none_iff] at m1; omega)]
      exact h
    · have i2 : bs[((i : Nat) : Int).toNat]? = some (.int y u) := by simpa using q2
      rw [i2]
      rw [drop_some m1, drop_some n1', HT.lexLt_cons] at h
      have hi2 : i + 1 ≤ bs.size := by
        have := (List.getElem?_eq_some_iff.mp m1).1
        omega
      obtain ⟨e, he, hiff⟩ := HT.eqAt_int A.in1 ⟨hp, g, d, tk, os⟩ x t y u
      refine wpAny_bind (he prog w _ _ ?_)
      have hc : ((i : Int) + 1) = ((i + 1 : Nat) : Int) := by omega
      cases e with
      | true =>
        rw [if_pos (hiff.mp rfl)] at h
        wp_walk
        rw [hc]
        refine ⟨plainId_quiet plain_eq_loop _, codeAny_builtin entry_eq_loop ?_⟩
        rw [Around.under_plainId plain_eq_loop _]
        exact ih (i + 1) (by omega) hi2 (by omega) prog w A R _ ⟨e1, e2, h⟩
      | false =>
        rw [if_neg (fun z => absurd (hiff.mpr z) Bool.false_ne_true)] at h
        wp_walk using wpAny_loadPart' e1, wpAny_loadPart' e2
        rw [i1, i2]
        have hri := HT.rcLt_int A.in1 ⟨hp, g, d, tk, os⟩ x t y u prog w
        wp_walk using hri
        exact h
theorem lex_list (p q : Addr) (as bs : Array Value) (n1 n2 : Nat) (ns ms : List Int) (ha : IntsAre as.toList ns) (hb : IntsAre bs.toList ms) :
    Meets (Builtin.«list.__lt__» ⟨[.ref p, .ref q], []⟩)
      (fun A R s => s.heap.get? p = some { cls := .type "list", dict := none, data := .seq as n1, slots := #[] } ∧ s.heap.get? q = some { cls := .type "list", dict := none, data := .seq bs n2, slots := #[] } ∧
        R (.ok (.ret (.bool (HT.lexLt ns ms)))) s) := by
  intro prog w A R s h
  obtain ⟨hp, g, d, tk, os⟩ := s; obtain ⟨e1, e2, h⟩ := h
  have f3 := AutoSeq1.sub_list_list
  wp_walk using wpAny_loadPart' e1, wpAny_loadPart' e2
  refine ⟨plainId_quiet plain_eq_loop _, codeAny_builtin entry_eq_loop ?_⟩
  rw [Around.under_plainId plain_eq_loop _]
  exact lex_loop p q as bs n1 n2 ns ms ha hb _ 0 (Nat.zero_le _) (Nat.zero_le _) rfl prog w A R _ ⟨e1, e2, h⟩
end
section
variable {X : Cx}
noncomputable def rLtL : R2 := fun x y H Q => ∃ a b ns ms, x = .ref a ∧ y = .ref b ∧ H a = some (.lst (ns.map V.int)) ∧ H b = some (.lst (ms.map V.int)) ∧ Q (.bl (HT.lexLt ns ms)) H
theorem lt_lists {prog : Program} {w : World} {A : Around} {E : Value → Shared → Prop} {s : Shared} {p q : Addr} {as bs : Array Value} {n1 n2 : Nat} {ns ms : List Int} {Q : Value → Shared → Prop}
    (e1 : s.heap.get? p = some { cls := .type "list", dict := none, data := .seq as n1, slots := #[] }) (e2 : s.heap.get? q = some { cls := .type "list", dict := none, data := .seq bs n2, slots := #[] })
    (ha : IntsAre as.toList ns) (hb : IntsAre bs.toList ms) (hu : A.units < cLine) (h : Q (.bool (HT.lexLt ns ms)) s) : wpAny (model prog w) A (richCompare .Lt (.ref p) (.ref q)) Q E s :=
  richCompare_meets_room (op := .Lt) ⟨_, e1, rfl⟩ ⟨_, e2, rfl⟩ PySem.F.slot_list_lt PySem.F.entry_list_lt (PySem.F.args_list_lt_2 _ _) (lex_list p q as bs n1 n2 ns ms ha hb)
    ⟨e1, e2, show Value.bool (HT.lexLt ns ms) ≠ Value.notImplemented ∧ Q (.bool (HT.lexLt ns ms)) s from ⟨(fun x => nomatch x), h⟩⟩ hu
theorem op_ltL (hu : X.A.units < cLine) : OpR X (compareOp .Lt) rLtL := by
  intro pins s σ H x y v u Q I rx ry h
  obtain ⟨a, b, ns, ms, rfl, rfl, ha, hb, q⟩ := h
  cases rx
  cases ry
  obtain ⟨_, its, n, r1, e1⟩ := I.hok a _ ha
  obtain ⟨_, its2, n2, r2, e2⟩ := I.hok b _ hb
  have i1 : IntsAre its.toArray.toList ns := intsAre_of r1
  have i2 : IntsAre its2.toArray.toList ms := intsAre_of r2
  exact lt_lists e1 e2 i1 i2 hu ⟨.bl (HT.lexLt ns ms), H, I, rfl, q⟩
end
/-! ### the least of a list of lists -/
section
variable {prog : Program} {w : World} {A : Around} {R : Result → Shared → Prop} {I : Addr} {fp wr : List Addr} {n : Nat} {P : Nat → Value → Prop} {St : Nat → Heap → Prop}
/-- compared in every heap that keeps what stood in h0 -/
noncomputable def CmpIn (prog : Program) (w : World) (A : Around) (P : Nat → Value → Prop) (bt : Nat → Nat → Bool) (h0 : Heap) (wr : List Addr) (S : Addr) : Prop :=
  ∀ i j vi vj (s : Shared) (Q : Value → Shared → Prop) (E : Value → Shared → Prop), P i vi → P j vj → (∀ b o, b ∉ wr → b ≠ S → h0.get? b = some o → s.heap.get? b = some o) → Q (.bool (bt i j)) s →
    wpAny (model prog w) A (richCompare .Lt vi vj) Q E s
theorem min_loopH (W : Walks prog w A.in1 I fp wr n P St) (bt : Nat → Nat → Bool) (S : Addr) {h0 : Heap} (hc : CmpIn prog w A.in1 P bt h0 wr S) (hSf : S ∉ fp) :
    ∀ (k j : Nat) (s : Shared) (vb : Value) (c : Nat), n - (j + 1) = k → j + 1 ≤ n → St (j + 1) s.heap → P (argBest bt j) vb →
    s.heap.get? S = some { cls := .type "list", dict := none, data := .seq #[vb, vb] c, slots := #[] } → (∀ b o, b ∉ wr → b ≠ S → h0.get? b = some o → s.heap.get? b = some o) →
    (∀ v h' tk, P (argBest bt (n - 1)) v → (∀ b o, b ∉ wr → b ≠ S → h0.get? b = some o → h'.get? b = some o) → R (.ok (.ret v)) { s with heap := h', toks := tk }) →
    codeAny (model prog w) A (.builtin "min.loop" ⟨[.ref I, .none, .ref S], []⟩) R s := by
  have hSw : S ∉ wr := fun h => hSf (W.sub _ h)
  have hnm : (toString "min" ++ toString ".loop" : String) = "min.loop" := by decide
  intro k
  induction k with
  | zero =>
    intro j s vb c hk hj hst hPb hS h0k hR
    have hjn : j + 1 = n := by omega
    refine codeAny_builtin PySem.F.entry_min_loop ?_
    rw [Around.under_plainId PySem.F.plain_min_loop _]
    show wpAny _ A.in1 (seqItems? (.ref S) >>= _) _ _ s
    refine wpAny_bind (wpAny_seqItems hS rfl ?_)
    show wpAny _ A.in1 (tryCatch (pyNext (.ref I)) _ >>= _) _ _ s
    refine wpAny_bind (wpAny_tryCatch (W.done s _ _ (hjn ▸ hst) fun h' tk kp => ?_))
    have hS2 := kp S _ hSw hS
    show wpAny _ A.in1 (updateSeq S (fun _ => #[]) >>= _) _ _ _
    refine wpAny_bind ?_
    refine wpAny_updateSeq hS2 rfl (wpAny_bind (wpAny_letGo (wpAny_pure ?_)))
    exact hR vb _ tk (by rw [← hjn]; exact hPb) fun b o hbw hbS e => (Heap.get?_update_other _ _ (Ne.symm hbS)).trans (kp b o hbw (h0k b o hbw hbS e))
  | succ k ih =>
    intro j s vb c hk hj hst hPb hS h0k hR
    have hjn : j + 1 < n := by omega
    refine codeAny_builtin PySem.F.entry_min_loop ?_
    rw [Around.under_plainId PySem.F.plain_min_loop _]
    show wpAny _ A.in1 (seqItems? (.ref S) >>= _) _ _ s
    refine wpAny_bind (wpAny_seqItems hS rfl ?_)
    show wpAny _ A.in1 (tryCatch (pyNext (.ref I)) _ >>= _) _ _ s
    refine wpAny_bind (wpAny_tryCatch (W.item (j + 1) s _ _ hjn hst fun v h' tk hP hst2 kp => ?_))
    have hS2 := kp S _ hSw hS
    have h0k2 : ∀ b o, b ∉ wr → b ≠ S → h0.get? b = some o → h'.get? b = some o := fun b o hbw hbS e => kp b o hbw (h0k b o hbw hbS e)
    show wpAny _ A.in1 (tryCatch (holding [v, v] (richCompare .Lt v vb >>= _)) _ >>= _) _ _ _
    refine wpAny_bind (wpAny_tryCatch (wpAny_holding (wpAny_bind (hc (j + 1) (argBest bt j) v vb _ _ _ hP hPb h0k2 ?_))))
    refine wpAny_bind (wpAny_holding (wpAny_truthy_bool ?_))
    refine wpAny_bind (wpAny_letGo (wpAny_pure ?_))
    cases hb : bt (j + 1) (argBest bt j) with
    | true =>
      simp only [if_true]
      refine wpAny_bind ?_
      refine wpAny_updateSeq hS2 rfl (wpAny_bind (wpAny_letGo ?_))
      rw [hnm]
      refine wpAny_pure ⟨plainId_quiet PySem.F.plain_min_loop _, ih (j + 1) _ v _ (by omega) hjn (W.frame _ _ _ hst2 fun b hbf o e => ?_) (by simp only [argBest, hb, if_true]; exact hP) (Heap.get?_update_self _ hS2 rfl) (fun b o hbw hbS e => ?_)
        fun v' h'' tk'' hP' kp2 => hR v' h'' tk'' hP' kp2⟩
      · exact (Heap.get?_update_other _ _ (fun z : S = b => hSf (by rw [z]; exact hbf))).trans e
      · exact (Heap.get?_update_other _ _ (Ne.symm hbS)).trans (h0k2 b o hbw hbS e)
    | false =>
      simp only [Bool.false_eq_true, if_false]
      refine wpAny_bind (wpAny_letGo ?_)
      rw [hnm]
      exact wpAny_pure ⟨plainId_quiet PySem.F.plain_min_loop _, ih (j + 1) _ vb c (by omega) hjn hst2 (by simp only [argBest, hb, Bool.false_eq_true, if_false]; exact hPb) hS2 h0k2 fun v' h'' tk'' hP' kp2 => hR v' h'' tk'' hP' kp2⟩
theorem min_firstH (W : Walks prog w A.in1 I fp wr n P St) (bt : Nat → Nat → Bool) (S : Addr) {h0 : Heap} (hc : CmpIn prog w A.in1 P bt h0 wr S) (hSf : S ∉ fp) (hn : 0 < n) {s : Shared} {c : Nat} (hst : St 0 s.heap)
    (hS : s.heap.get? S = some { cls := .type "list", dict := none, data := .seq #[] c, slots := #[] }) (h0k : ∀ b o, b ∉ wr → b ≠ S → h0.get? b = some o → s.heap.get? b = some o)
    (hR : ∀ v h' tk, P (argBest bt (n - 1)) v → (∀ b o, b ∉ wr → b ≠ S → h0.get? b = some o → h'.get? b = some o) → R (.ok (.ret v)) { s with heap := h', toks := tk }) :
    codeAny (model prog w) A (.builtin "min.loop" ⟨[.ref I, .none, .ref S], []⟩) R s := by
  have hSw : S ∉ wr := fun h => hSf (W.sub _ h)
  have hnm : (toString "min" ++ toString ".loop" : String) = "min.loop" := by decide
  refine codeAny_builtin PySem.F.entry_min_loop ?_
  rw [Around.under_plainId PySem.F.plain_min_loop _]
  show wpAny _ A.in1 (seqItems? (.ref S) >>= _) _ _ s
  refine wpAny_bind (wpAny_seqItems hS rfl ?_)
  show wpAny _ A.in1 (tryCatch (pyNext (.ref I)) _ >>= _) _ _ s
  refine wpAny_bind (wpAny_tryCatch (W.item 0 s _ _ hn hst fun v h' tk hP hst2 kp => ?_))
  have hS2 := kp S _ hSw hS
  show wpAny _ A.in1 (updateSeq S (fun _ => #[v, v]) >>= _) _ _ _
  refine wpAny_bind ?_
  refine wpAny_updateSeq hS2 rfl ?_
  rw [hnm]
  refine wpAny_pure ⟨plainId_quiet PySem.F.plain_min_loop _, min_loopH W bt S hc hSf _ 0 _ v _ rfl hn (W.frame _ _ _ hst2 fun b hbf o e => ?_) hP (Heap.get?_update_self _ hS2 rfl) (fun b o hbw hbS e => ?_) fun v' h'' tk'' hP' kp2 => hR v' h'' tk'' hP' kp2⟩
  · exact (Heap.get?_update_other _ _ (fun z : S = b => hSf (by rw [z]; exact hbf))).trans e
  · exact (Heap.get?_update_other _ _ (Ne.symm hbS)).trans (kp b o hbw (h0k b o hbw hbS e))
end
/-! the order of lists of ints -/
theorem lex_irrefl : ∀ l : List Int, HT.lexLt l l = false
  | [] => rfl
  | x :: r => by rw [HT.lexLt_cons, if_pos rfl]; exact lex_irrefl r
/-- not before, and not before: not before -/
theorem lex_trans : ∀ {a b c : List Int}, HT.lexLt b a = false → HT.lexLt c b = false → HT.lexLt c a = false
  | [], [], c, _, h => h
  | [], y :: ys, [], _, h => by rw [HT.lexLt_nil_cons] at h; cases h
  | [], y :: ys, z :: zs, _, _ => HT.lexLt_cons_nil z zs
  | x :: xs, [], c, h, _ => by rw [HT.lexLt_nil_cons] at h; cases h
  | x :: xs, y :: ys, [], _, h => by rw [HT.lexLt_nil_cons] at h; cases h
  | x :: xs, y :: ys, z :: zs, h1, h2 => by
    rw [HT.lexLt_cons] at h1 h2 ⊢
    by_cases e1 : y = x
    · rw [if_pos e1] at h1
      by_cases e2 : z = y
      · rw [if_pos e2] at h2
        rw [if_pos (e2.trans e1)]
        exact lex_trans h1 h2
      · rw [if_neg e2] at h2
        have := of_decide_eq_false h2
        rw [if_neg (by omega)]
        exact decide_eq_false (by omega)
    · rw [if_neg e1] at h1
      have := of_decide_eq_false h1
      by_cases e2 : z = y
      · rw [if_neg (by omega)]
        exact decide_eq_false (by omega)
      · rw [if_neg e2] at h2
        have := of_decide_eq_false h2
        rw [if_neg (by omega)]
        exact decide_eq_false (by omega)
theorem lex_asymm : ∀ {a b : List Int}, HT.lexLt a b = true → HT.lexLt b a = false
  | [], [], h => by cases h
  | [], y :: ys, _ => rfl
  | x :: xs, [], h => by cases h
  | x :: xs, y :: ys, h => by
    rw [HT.lexLt_cons] at h ⊢
    by_cases e : x = y
    · rw [if_pos e] at h
      rw [if_pos e.symm]
      exact lex_asymm h
    · rw [if_neg e] at h
      have := of_decide_eq_true h
      rw [if_neg (by omega)]
      exact decide_eq_false (by omega)
theorem best_lex (f : Nat → List Int) : ∀ n, argBest (fun i j => HT.lexLt (f i) (f j)) n ≤ n ∧ ∀ i, i ≤ n → HT.lexLt (f i) (f (argBest (fun i j => HT.lexLt (f i) (f j)) n)) = false
  | 0 => ⟨Nat.le_refl _, fun i hi => by
    have : i = 0 := by omega
    subst this
    exact lex_irrefl _⟩
  | n + 1 => by
    obtain ⟨h1, h2⟩ := best_lex f n
    unfold argBest
    by_cases h : HT.lexLt (f (n + 1)) (f (argBest (fun i j => HT.lexLt (f i) (f j)) n)) = true
    · rw [if_pos h]
      refine ⟨Nat.le_refl _, fun i hi => ?_⟩
      by_cases e : i = n + 1
      · rw [e]; exact lex_irrefl _
      · exact lex_trans (lex_asymm h) (h2 i (by omega))
    · rw [if_neg h]
      refine ⟨by omega, fun i hi => ?_⟩
      by_cases e : i = n + 1
      · rw [e]; simpa using h
      · exact h2 i (by omega)
end Pa

end
section
set_option Elab.async false
set_option linter.all false
set_option maxRecDepth 100000
set_option maxHeartbeats 2000000
namespace Pa
open PySem PySem.Spec PyProof.Rows L2
section
variable {prog : Program} {w : World} {A : Around} {E : Value → Shared → Prop} {s : Shared} {l : Addr} {xs : Array Value}
theorem min_walkH {Q : Value → Shared → Prop} (bt : Nat → Nat → Bool) (hh : A.handled = none) (hl : s.heap.IsList l xs) (hne : 0 < xs.size)
    (hc : ∀ (i j : Nat) (vi vj : Value) (s2 : Shared) (Q2 : Value → Shared → Prop) (E2 : Value → Shared → Prop), xs[i]? = some vi → xs[j]? = some vj → (∀ b o, s.heap.get? b = some o → s2.heap.get? b = some o) → Q2 (.bool (bt i j)) s2 →
      wpAny (model prog w) A.in1 (richCompare .Lt vi vj) Q2 E2 s2)
    (h : ∀ v h' tk, xs[argBest bt (xs.size - 1)]? = some v → (∀ b o, s.heap.get? b = some o → h'.get? b = some o) → Q v { s with heap := h', toks := tk }) :
    wpAny (model prog w) A (call (.builtin "min") [.ref l]) Q E s := by
  have hnm : (toString "min" ++ toString ".loop" : String) = "min.loop" := by decide
  refine call_function_tree PySem.F.kind_min PySem.F.plain_min PySem.F.entry_min (PySem.F.args_min1 _) ?_
  show wpAny _ A.in1 (Builtin.Builtins.bindParams "min" ["key", "default"] 0 ⟨[], []⟩ >>= _) _ _ s
  refine wpAny_bind (wpAny_of_eq (show Builtin.Builtins.bindParams "min" ["key", "default"] 0 ⟨[], []⟩ = pure [none, none] from rfl) ?_)
  refine wpAny_bind (wpAny_pure ?_)
  refine wpAny_bind (iter_any hl fun s₂ e st hlI => ?_)
  subst e
  have W := Walks.list (prog := prog) (w := w) (A := A.in1) hh _ l hlI xs
  refine wpAny_bind (wpAny_newObj_type ?_)
  have hlt : l < s.heap.objs.size := by obtain ⟨_, e, _⟩ := hl; exact Heap.lt_size e
  have hz : (s.heap.push { cls := .type "list_iterator", data := .fields #[.ref l, .int 0 0] }).objs.size = s.heap.objs.size + 1 := Heap.size_push ..
  have hSf : (s.heap.push { cls := .type "list_iterator", data := .fields #[.ref l, .int 0 0] }).objs.size ∉ [s.heap.objs.size, l] := fun hm => by
    rw [hz] at hm
    rcases List.mem_cons.mp hm with z | z
    · exact absurd z (Nat.succ_ne_self _)
    · exact absurd (List.mem_singleton.mp z) (Nat.ne_of_gt (Nat.lt_succ_of_lt hlt))
  rw [hnm]
  have keep : ∀ (h' : Heap), (∀ b o, b ∉ [s.heap.objs.size] → b ≠ (s.heap.push { cls := .type "list_iterator", data := .fields #[.ref l, .int 0 0] }).objs.size → s.heap.get? b = some o → h'.get? b = some o) → ∀ b o, s.heap.get? b = some o → h'.get? b = some o :=
    fun h' k b o e => k b o (fun z => Nat.ne_of_lt (Heap.lt_size e) (List.mem_singleton.mp z)) (by rw [hz]; exact Nat.ne_of_lt (Nat.lt_succ_of_lt (Heap.lt_size e))) e
  refine wpAny_pure ⟨plainId_quiet PySem.F.plain_min_loop _, min_firstH W bt _ (h0 := s.heap) (fun i j vi vj s2 Q2 E2 hi hj kp q => hc i j vi vj s2 Q2 E2 hi hj (keep _ kp) q) hSf hne
    (W.frame _ _ _ st fun b _ o e => Heap.get?_push_of_some _ e) (Heap.get?_push_size _ rfl) (fun b o _ _ e => Heap.get?_push_of_some _ (Heap.get?_push_of_some _ e)) fun v h' tk hP kp => ?_⟩
  exact h v h' tk hP (keep _ kp)
end
section
variable {X : Cx}
/-- min of a list of lists of ints: one of them that none is before -/
theorem call_minLL (hc : X.calm = true) (hu : X.A.in1.units < cLine) : CallR X (.builtin "min") (fun xs H Q => ∃ (p : Addr) (qs : List Addr) (f : Nat → List Int), xs = [.ref p] ∧ H p = some (.lst (qs.map V.ref)) ∧ 0 < qs.length ∧
    (∀ i q, qs[i]? = some q → H q = some (.lst ((f i).map V.int))) ∧ ∀ j q, qs[j]? = some q → (∀ i, i < qs.length → HT.lexLt (f i) (f j) = false) → Q (.ref q) H) := by
  intro pins s σ H xs us Q I r h
  obtain ⟨p, qs, f, rfl, hp, hne, hq, q⟩ := h
  obtain ⟨u, rfl, rx⟩ := vals1 r
  cases rx
  obtain ⟨zz, its, n, r', e⟩ := I.hok p _ hp
  clear zz
  have el : its = qs.map Value.ref := by
    clear e hp hne hq q
    induction qs generalizing its with
    | nil => cases r'; rfl
    | cons a t ih =>
      cases r' with
      | cons h1 h2 =>
        rw [ih _ h2]
        cases h1
        rfl
  subst el
  have hsz : (qs.map Value.ref).toArray.size = qs.length := by simp
  have at_ : ∀ (i : Nat) (v : Value), (qs.map Value.ref).toArray[i]? = some v → ∃ a, qs[i]? = some a ∧ v = .ref a := by
    intro i v hv
    rw [List.getElem?_toArray, List.getElem?_map] at hv
    cases ha : qs[i]? with
    | none => rw [ha] at hv; cases hv
    | some a => rw [ha] at hv; exact ⟨a, rfl, (Option.some.inj hv).symm⟩
  refine min_walkH (fun i j => HT.lexLt (f i) (f j)) (I.ok.hd hc) (PySem.IsL.isList e) (by rw [hsz]; exact hne) (fun i j vi vj s2 Q2 E2 hi hj kp q2 => ?_) fun v h' tk hv hk => ?_
  · obtain ⟨a, ha, rfl⟩ := at_ i vi hi
    obtain ⟨b, hb, rfl⟩ := at_ j vj hj
    obtain ⟨_, ia, na, ra, ea⟩ := I.hok a _ (hq i a ha)
    obtain ⟨_, ib, nb, rb, eb⟩ := I.hok b _ (hq j b hb)
    have i1 : IntsAre ia.toArray.toList (f i) := intsAre_of ra
    have i2 : IntsAre ib.toArray.toList (f j) := intsAre_of rb
    exact lt_lists (kp _ _ ea) (kp _ _ eb) i1 i2 hu q2
  · obtain ⟨a, ha, rfl⟩ := at_ _ v hv
    obtain ⟨h1, h2⟩ := best_lex f ((qs.map Value.ref).toArray.size - 1)
    exact ⟨.ref a, H, I.kept hk, rfl, q _ a ha fun i hi => h2 i (by rw [hsz]; omega)⟩
end
end Pa

end
section
set_option Elab.async false
set_option linter.all false
set_option maxRecDepth 100000
set_option maxHeartbeats 2000000
namespace Pa
open PySem PySem.Spec PyProof.Rows L2
/-! ### every second item -/
theorem vals_none {xs : List V} {us : List Value} (r : Vals xs us) {i : Nat} (h : xs[i]? = none) : us[i]? = none := by
  rw [List.getElem?_eq_none_iff] at h ⊢
  rw [← r.length]
  exact h
theorem vals_pick {xs : List V} {us : List Value} (r : Vals xs us) : ∀ idx : List Nat, Vals (idx.filterMap fun i => xs[i]?) (idx.filterMap fun i => us[i]?)
  | [] => .nil
  | i :: t => by
    cases h : xs[i]? with
    | none =>
      rw [List.filterMap_cons_none h, List.filterMap_cons_none (vals_none r h)]
      exact vals_pick r t
    | some x =>
      obtain ⟨u, hu, ru⟩ := r.get h
      rw [List.filterMap_cons_some h, List.filterMap_cons_some hu]
      exact .cons ru (vals_pick r t)
noncomputable def evens (j m : Nat) : List Nat := (List.range m).map fun k => j + 2 * k
theorem pick_evens (us : Array Value) {j m : Nat} (hj : j < 2) (hm : us.size = 2 * m) : slicePick us (some (j : Int)) none (some 2) = ((evens j m).filterMap fun i => us.toList[i]?).toArray := by
  unfold slicePick evens
  congr 1
  have e : sliceRange (sliceBounds (some (j : Int)) none (some 2) us.size).1 (sliceBounds (some (j : Int)) none (some 2) us.size).2.1 (sliceBounds (some (j : Int)) none (some 2) us.size).2.2 = (List.range m).map fun k => j + 2 * k := by
    have h2 : (2 : Int) > 0 := by decide
    have hn : ¬ ((j : Int) < 0) := by omega
    simp only [sliceBounds, Option.getD_some, h2, hn, if_true, if_false, hm]
    unfold sliceRange
    simp only [h2, if_true]
    by_cases h0 : m = 0
    · subst h0
      have : ¬ (max 0 (min (j : Int) ((2 * 0 : Nat) : Int)) < ((2 * 0 : Nat) : Int)) := by omega
      rw [if_neg this]
      rfl
    · have e1 : max 0 (min (j : Int) ((2 * m : Nat) : Int)) = (j : Int) := by omega
      rw [e1, if_pos (by omega)]
      have e2 : ((((2 * m : Nat) : Int) - (j : Int) + 2 - 1) / 2).toNat = m := by omega
      rw [e2]
      refine List.map_congr_left fun k _ => ?_
      omega
  rw [e]
  simp
section
variable {X : Cx} {e e1 e2 : Expr} {te t1 t2 : TE} {pos p2 : Pos}
/-- xs[j::2], an even count of items -/
noncomputable def tSl2 (K : PySem.W.Frag) (te t1 t2 : TE) : TE := fun σ H Q => te σ H fun x H1 => t1 σ H1 fun y H2 => t2 σ H2 fun z H3 => ∃ (a : Addr) (xs : List V) (j m : Nat), x = .ref a ∧ y = .int j ∧ z = .int 2 ∧ j < 2 ∧ SqL K H3 a xs ∧ xs.length = 2 * m ∧
  ∀ p, H3 p = none → Q (.ref p) (upd H3 p (.lst ((evens j m).filterMap fun i => xs[i]?)))
theorem pe_slice2 (he : PE X e te) (h1 : PE X e1 t1) (h2 : PE X e2 t2) : PE X (.Subscript e (.Slice (some e1) none (some e2) p2) pos) (tSl2 X.K te t1 t2) := by
  intro pins s σ H Q I h
  refine Subscript_ (thn (he pins s σ H _ I h) fun v s1 ⟨x, H1, I1, r1, q1⟩ => ?_)
  refine wpAny_Slice ?_
  rw [evalPart_some]
  refine thn (h1 pins s1 σ H1 _ I1 q1) fun vl s2 ⟨y, H2, I2, r2, q2⟩ => ?_
  rw [evalPart_none]
  refine wpAny_pure ?_
  rw [evalPart_some]
  refine thn (h2 pins s2 σ H2 _ I2 q2) fun vs s3 ⟨z, H3, I3, r3, q3⟩ => ?_
  obtain ⟨a, xs, j, m, rfl, rfl, rfl, hj, hx, hm, q⟩ := q3
  cases r1
  obtain ⟨tl, rfl⟩ := r2
  obtain ⟨tz, rfl⟩ := r3
  have I4 : Inv X pins σ H3 { s3 with heap := s3.heap.push { cls := .type "slice", data := .fields #[.int j tl, .none, .int 2 tz] } } := I3.kept (t' := s3.toks) fun b ob q => Heap.get?_push_of_some _ q
  obtain ⟨its, r, ht, hz⟩ := I4.list hx
  have hlen := r.length
  show wpAny (model X.prog X.w) X.A (subscriptTail e (.Slice (some e1) none (some e2) p2) (.ref a) (.ref s3.heap.objs.size)) (EP X pins σ Q) X.xe { s3 with heap := s3.heap.push { cls := .type "slice", data := .fields #[.int j tl, .none, .int 2 tz] } }
  refine tail_any (ops := [.ref a, .ref s3.heap.objs.size]) ht.isList.typeIs slot_list_getitem.lookup ?_ (by with_unfolding_all rfl)
  refine wpAny_getItem_list_slice ht.isList (Heap.IsSliceOf.new ..) (.int j tl) .none (.int 2 tz) (by simp) ?_ (by rw [List.size_toArray] <;> omega)
  rw [pick_evens _ hj (by rw [List.size_toArray, ← hlen]; exact hm)]
  refine ⟨.ref _, _, I4.laid (t' := s3.toks) (o := .lst ((evens j m).filterMap fun i => xs[i]?)) (fun b ob q => Heap.get?_push_of_some _ q) (Nat.le_refl _) ?_, rfl, q _ (I4.hok.fresh (Nat.le_refl _))⟩
  refine ⟨Nat.le_trans (List.length_filterMap_le ..) ?_, _, 0, vals_pick r _, Heap.get?_push_size _ rfl⟩
  unfold evens
  rw [List.length_map, List.length_range]
  omega
end
end Pa

end
section
set_option Elab.async false
set_option linter.all false
set_option maxRecDepth 100000
set_option maxHeartbeats 2000000
/-! The pairs of a dict whatever its keys are: by its entries. -/
namespace Pa
open PySem PySem.Spec PyProof.Rows L2
/-- the dict at d holds these entries -/
noncomputable def Dr (h : Heap) (d : Addr) (es : Array DictEntry) (ep : Nat) : Prop := ∃ o, h.get? d = some o ∧ o.ExactDict ∧ o.data = .dict es ep
theorem Dr.typeIs {s : Shared} {d : Addr} {es : Array DictEntry} {ep : Nat} (x : Dr s.heap d es ep) : s.TypeIs (.ref d) "dict" := let ⟨o, ho, hc, _⟩ := x; ⟨o, ho, hc.1⟩
theorem Dr.keep {h h' : Heap} {d : Addr} {es : Array DictEntry} {ep : Nat} (x : Dr h d es ep) (k : ∀ o, h.get? d = some o → h'.get? d = some o) : Dr h' d es ep := let ⟨o, ho, r⟩ := x; ⟨o, k o ho, r⟩
theorem Dr.lt {h : Heap} {d : Addr} {es : Array DictEntry} {ep : Nat} (x : Dr h d es ep) : d < h.objs.size := let ⟨_, ho, _⟩ := x; Heap.lt_size ho
section
variable {prog : Program} {w : World} {A : Around} {E : Value → Shared → Prop} {s : Shared}
theorem view_raw (d : Addr) (hd : (d == sysModules) = false) : MeetsIn prog w (Builtin.«dict.items» ⟨[.ref d], []⟩) (fun _ R s => (∃ es ep, Dr s.heap d es ep) ∧
      R (.ok (.ret (.ref s.heap.objs.size))) { s with heap := s.heap.push { cls := .type "dict_items", data := .fields #[.ref d] } }) :=
  .of_wp fun A R s ⟨⟨es, ep, hm⟩, h⟩ => by
    unfold Builtin.«dict.items» Builtin.Dict.noArgs
    refine wpAny_bind (wpAny_bind (wpAny_notOrdered_dict hm.typeIs ?_))
    show wpAny _ _ (pure d) _ _ s
    refine wpAny_pure ?_
    show wpAny _ _ (Builtin.Dict.showsAll d >>= _) _ _ s
    unfold Builtin.Dict.showsAll
    rw [if_neg (by rw [hd]; exact Bool.false_ne_true)]
    exact wpAny_bind (wpAny_pure (wpAny_bind (wpAny_newObj_type (wpAny_pure ⟨_, rfl, h⟩))))
theorem iter_raw {v d : Addr} {es : Array DictEntry} {ep : Nat} {Q : Value → Shared → Prop} (hv : s.heap.IsItemsView v d) (hm : Dr s.heap d es ep)
    (hQ : Q (.ref s.heap.objs.size) { s with heap := s.heap.push { cls := .type "dict_itemiterator", data := .fields #[.none, .bool false, .ref d, .int 0 0, .int es.size 0, .int ep 0, .none, .none] } }) :
    wpAny (model prog w) A (pyIter (.ref v)) Q E s := by
  obtain ⟨o1, e1, c1, d1⟩ := id hv
  obtain ⟨o, ho, hc, hdat⟩ := hm
  refine wpAny_pyIter_slot hv.typeIs PySem.F.slot_dict_items_iter (wpAny_call_entry PySem.F.slot_dict_items_iter hv.typeIs PySem.F.entry_dict_items_iter ?_ (PySem.F.args_dict_items_iter_1 _))
  unfold Builtin.«dict_items.__iter__»
  refine wpAny_bind (wpAny_pure (wpAny_bind ?_))
  unfold Builtin.Dict_items.dictOf
  refine wpAny_bind (wpAny_field e1 d1 (x := .ref d) rfl (wpAny_pure (wpAny_bind ?_)))
  unfold Builtin.Dict_items.newIterator
  refine wpAny_bind (wpAny_dictEntries ho hdat (wpAny_bind (wpAny_dictEpoch ho hdat ?_)))
  have own : Builtin.Dict_items.ownsTuple "dict_itemiterator" = true := by decide
  simp only [own, if_true]
  refine wpAny_newObj_type (wpAny_pure ⟨_, rfl, "dict_itemiterator", _, ⟨_, Heap.get?_push_size _ rfl, rfl⟩, PySem.F.slot_dict_itemiterator_next.lookup, ?_⟩)
    (by simp only [sizeOk, Builtin.Dict_items.ownedTupleFields, List.size_toArray, List.length_append, List.length_cons, List.length_nil, sizeLine_eq]; omega)
  simpa [rawInt, Builtin.Dict_items.ownedTupleFields] using hQ
/-- the next pair, the iterator keeps no tuple -/
theorem next_free {it d : Addr} {i ep : Nat} {es : Array DictEntry} {en : DictEntry} {ok ov : Value} {Q : Option Value → Shared → Prop} (hit : IsItemIter s.heap it d i es.size ep ok ov) (hm : Dr s.heap d es ep) (hx : es[i]? = some en)
    (hQ : ∀ h', IsItemIterOut h' it d (i + 1) es.size ep en.key en.val s.heap.objs.size → h'.get? s.heap.objs.size = some { cls := .type "tuple", data := .seq #[en.key, en.val] } → h'.objs.size = s.heap.objs.size + 1 →
      (∀ b o, b ≠ it → s.heap.get? b = some o → h'.get? b = some o) → Q (some (.ref s.heap.objs.size)) { s with heap := h' }) :
    wpAny (model prog w) A (pyNext (.ref it)) Q E s := by
  obtain ⟨hp, g, dr, tk, os⟩ := s
  obtain ⟨od, hod, _, hdd⟩ := hm
  have hT : Shared.TypeIs ⟨hp, g, dr, tk, os⟩ (.ref it) "dict_itemiterator" := ⟨_, hit, rfl⟩
  have hlt : i < es.size := (Array.getElem?_eq_some_iff.mp hx).1
  have hen : es[i] = en := (Array.getElem?_eq_some_iff.mp hx).2
  unfold pyNext
  refine wpAny_bind (wpAny_attempt (wpAny_callSpecial?_slot (name := Str.ofString "__next__") hT PySem.F.slot_dict_itemiterator_next (wpAny_call_entry PySem.F.slot_dict_itemiterator_next hT PySem.F.entry_dict_itemiterator_next ?_ (PySem.F.args_dict_itemiterator_next_1 _))))
  refine wpAny_bind (wpAny_pure (wpAny_bind (wpAny_bind ?_)))
  refine wpAny_bind (wpAny_typeNameOfWhole_itemiter hT (wpAny_pure (wpAny_bind (wpAny_fieldsOf hit rfl ?_))))
  have own : Builtin.Dict_items.ownsTuple "dict_itemiterator" = true := by decide
  simp only [own, if_true]
  show wpAny _ _ (ite ((Value.ref d == Value.none) = true) _ _) _ _ _
  rw [if_neg (show ¬ (Value.ref d == Value.none) = true from Bool.false_ne_true)]
  refine wpAny_bind (wpAny_pure (wpAny_bind (wpAny_dictEntries hod hdd ?_)))
  rw [if_neg (by simp)]
  refine wpAny_bind (wpAny_pure (wpAny_bind (wpAny_dictEpoch hod hdd ?_)))
  rw [if_neg (by simp)]
  refine wpAny_pure ?_
  simp only [show ¬ ((i : Int) < 0) by omega, if_false, Int.toNat_natCast, Array.getElem?_eq_getElem hlt]
  refine wpAny_bind (wpAny_bind (wpAny_typeNameOfWhole_itemiter hT (wpAny_pure (wpAny_bind (wpAny_isOneOf_itemiter hT ?_)))))
  show wpAny _ _ (setField (.ref it) 3 (rawInt ((i : Int) + 1)) >>= _) _ _ _
  refine wpAny_bind (wpAny_setField_rec hit (by simp) fun h1 e1 s1 => ?_)
  replace s1 : Heap.SameBut it hp h1 := s1
  replace e1 : IsItemIter h1 it d (i + 1) es.size ep ok ov := by
    have z : ((i + 1 : Nat) : Int) = (i : Int) + 1 := by omega
    unfold IsItemIter
    rw [z]
    simpa [rawInt] using e1
  have hT1 : Shared.TypeIs ⟨h1, g, dr, tk, os⟩ (.ref it) "dict_itemiterator" := ⟨_, e1, rfl⟩
  refine wpAny_bind (wpAny_holding (wpAny_bind (wpAny_isOneOf_itemiter hT1 (wpAny_bind (wpAny_isOneOf_itemiter hT1 ?_)))))
  show wpAny _ _ (Builtin.Dict_items.pairFromOwner (.ref it) 6 es[i].key es[i].val) _ _ ⟨h1, g, dr, tk, os⟩
  rw [hen]
  unfold Builtin.Dict_items.pairFromOwner
  refine wpAny_bind (wpAny_newTuple ?_)
  have e2 : IsItemIter (h1.push { cls := .type "tuple", data := .seq #[en.key, en.val] }) it d (i + 1) es.size ep ok ov := Heap.get?_push_of_some _ e1
  generalize gh : h1.push { cls := .type "tuple", data := .seq #[en.key, en.val] } = h2 at e2
  have z1 : h1.objs.size = hp.objs.size := s1.1
  have il : it < hp.objs.size := Heap.lt_size hit
  have t2 : h2.get? hp.objs.size = some { cls := .type "tuple", data := .seq #[en.key, en.val] } := by rw [← gh, ← z1]; exact Heap.get?_push_size _ rfl
  have z2 : h2.objs.size = hp.objs.size + 1 := by rw [← gh, Heap.size_push, z1]
  have k2 : ∀ b o, b ≠ it → hp.get? b = some o → h2.get? b = some o := fun b o hb e => by rw [← gh]; exact Heap.get?_push_of_some _ (s1.extBut b o hb e)
  show wpAny _ _ (Builtin.Dict_items.ownedTupleIsFree (.ref it) >>= _) _ _ ⟨h2, g, dr, tk, os⟩
  rw [z1]
  clear gh e1 s1 hT1 z1 h1
  refine wpAny_bind ?_
  unfold Builtin.Dict_items.ownedTupleIsFree
  refine wpAny_bind (wpAny_field e2 rfl (x := .none) rfl (wpAny_pure ?_))
  simp only [if_true]
  refine wpAny_bind (wpAny_field e2 rfl (x := ok) rfl (wpAny_bind (wpAny_field e2 rfl (x := ov) rfl ?_)))
  refine wpAny_bind (wpAny_setField_rec e2 (by simp) fun h3 e3 s3 => ?_)
  replace s3 : Heap.SameBut it h2 h3 := s3
  replace e3 : IsItemIter h3 it d (i + 1) es.size ep en.key ov := e3
  refine wpAny_bind (wpAny_setField_rec e3 (by simp) fun h4 e4 s4 => ?_)
  replace s4 : Heap.SameBut it h3 h4 := s4
  replace e4 : IsItemIter h4 it d (i + 1) es.size ep en.key en.val := e4
  refine wpAny_bind (wpAny_setField_rec e4 (by simp) fun h5 e5 s5 => ?_)
  replace s5 : Heap.SameBut it h4 h5 := s5
  replace e5 : IsItemIterOut h5 it d (i + 1) es.size ep en.key en.val hp.objs.size := e5
  refine wpAny_bind (wpAny_setField_rec e5 (by simp) fun h6 e6 s6 => ?_)
  replace s6 : Heap.SameBut it h5 h6 := s6
  replace e6 : IsItemIterOut h6 it d (i + 1) es.size ep en.key en.val hp.objs.size := e6
  refine wpAny_bind (wpAny_letGo (wpAny_pure (wpAny_pure ⟨_, rfl, wpAny_pure (hQ h6 e6 ?_ ?_ ?_)⟩)))
  · exact s6.extBut _ _ (Nat.ne_of_gt il) (s5.extBut _ _ (Nat.ne_of_gt il) (s4.extBut _ _ (Nat.ne_of_gt il) (s3.extBut _ _ (Nat.ne_of_gt il) t2)))
  · show h6.objs.size = hp.objs.size + 1
    rw [s6.1, s5.1, s4.1, s3.1, z2]
  · exact fun b o hb e => s6.extBut b o hb (s5.extBut b o hb (s4.extBut b o hb (s3.extBut b o hb (k2 b o hb e))))
theorem next_kept {it d a : Addr} {f : Bool} {oa : Obj} {i ep : Nat} {es : Array DictEntry} {en : DictEntry} {ok ov : Value} {Q : Option Value → Shared → Prop} (hit : PySem.W.KdxIt s.heap it d i es.size ep ok ov a f) (ha : s.heap.get? a = some oa) (hai : a ≠ it)
    (hm : Dr s.heap d es ep) (hx : es[i]? = some en)
    (hQ : ∀ h', PySem.W.KdxIt h' it d (i + 1) es.size ep ok ov a true → h'.get? s.heap.objs.size = some { cls := .type "tuple", data := .seq #[en.key, en.val] } → h'.objs.size = s.heap.objs.size + 1 →
      (∀ b o, b ≠ it → s.heap.get? b = some o → h'.get? b = some o) → Q (some (.ref s.heap.objs.size)) { s with heap := h' }) :
    wpAny (model prog w) A (pyNext (.ref it)) Q E s := by
  obtain ⟨hp, g, dr, tk, os⟩ := s
  obtain ⟨od, hod, _, hdd⟩ := hm
  have hT : Shared.TypeIs ⟨hp, g, dr, tk, os⟩ (.ref it) "dict_itemiterator" := ⟨_, hit, rfl⟩
  have hlt : i < es.size := (Array.getElem?_eq_some_iff.mp hx).1
  have hen : es[i] = en := (Array.getElem?_eq_some_iff.mp hx).2
  unfold pyNext
  refine wpAny_bind (wpAny_attempt (wpAny_callSpecial?_slot (name := Str.ofString "__next__") hT PySem.F.slot_dict_itemiterator_next (wpAny_call_entry PySem.F.slot_dict_itemiterator_next hT PySem.F.entry_dict_itemiterator_next ?_ (PySem.F.args_dict_itemiterator_next_1 _))))
  refine wpAny_bind (wpAny_pure (wpAny_bind (wpAny_bind ?_)))
  refine wpAny_bind (wpAny_typeNameOfWhole_itemiter hT (wpAny_pure (wpAny_bind (wpAny_fieldsOf hit rfl ?_))))
  have own : Builtin.Dict_items.ownsTuple "dict_itemiterator" = true := by decide
  simp only [own, if_true]
  show wpAny _ _ (ite ((Value.ref d == Value.none) = true) _ _) _ _ _
  rw [if_neg (show ¬ (Value.ref d == Value.none) = true from Bool.false_ne_true)]
  refine wpAny_bind (wpAny_pure (wpAny_bind (wpAny_dictEntries hod hdd ?_)))
  rw [if_neg (by simp)]
  refine wpAny_bind (wpAny_pure (wpAny_bind (wpAny_dictEpoch hod hdd ?_)))
  rw [if_neg (by simp)]
  refine wpAny_pure ?_
  simp only [show ¬ ((i : Int) < 0) by omega, if_false, Int.toNat_natCast, Array.getElem?_eq_getElem hlt]
  refine wpAny_bind (wpAny_bind (wpAny_typeNameOfWhole_itemiter hT (wpAny_pure (wpAny_bind (wpAny_isOneOf_itemiter hT ?_)))))
  show wpAny _ _ (setField (.ref it) 3 (rawInt ((i : Int) + 1)) >>= _) _ _ _
  refine wpAny_bind (wpAny_setField_rec hit (by simp) fun h1 e1 s1 => ?_)
  replace s1 : Heap.SameBut it hp h1 := s1
  replace e1 : PySem.W.KdxIt h1 it d (i + 1) es.size ep ok ov a f := by
    have z : ((i + 1 : Nat) : Int) = (i : Int) + 1 := by omega
    unfold PySem.W.KdxIt
    rw [z]
    simpa [rawInt] using e1
  have hT1 : Shared.TypeIs ⟨h1, g, dr, tk, os⟩ (.ref it) "dict_itemiterator" := ⟨_, e1, rfl⟩
  refine wpAny_bind (wpAny_holding (wpAny_bind (wpAny_isOneOf_itemiter hT1 (wpAny_bind (wpAny_isOneOf_itemiter hT1 ?_)))))
  show wpAny _ _ (Builtin.Dict_items.pairFromOwner (.ref it) 6 es[i].key es[i].val) _ _ ⟨h1, g, dr, tk, os⟩
  rw [hen]
  unfold Builtin.Dict_items.pairFromOwner
  refine wpAny_bind (wpAny_newTuple ?_)
  have e2 : PySem.W.KdxIt (h1.push { cls := .type "tuple", data := .seq #[en.key, en.val] }) it d (i + 1) es.size ep ok ov a f := Heap.get?_push_of_some _ e1
  generalize gh : h1.push { cls := .type "tuple", data := .seq #[en.key, en.val] } = h2 at e2
  have z1 : h1.objs.size = hp.objs.size := s1.1
  have il : it < hp.objs.size := Heap.lt_size hit
  have t2 : h2.get? hp.objs.size = some { cls := .type "tuple", data := .seq #[en.key, en.val] } := by rw [← gh, ← z1]; exact Heap.get?_push_size _ rfl
  have z2 : h2.objs.size = hp.objs.size + 1 := by rw [← gh, Heap.size_push, z1]
  have k2 : ∀ b o, b ≠ it → hp.get? b = some o → h2.get? b = some o := fun b o hb e => by rw [← gh]; exact Heap.get?_push_of_some _ (s1.extBut b o hb e)
  show wpAny _ _ (Builtin.Dict_items.ownedTupleIsFree (.ref it) >>= _) _ _ ⟨h2, g, dr, tk, os⟩
  rw [z1]
  clear gh e1 s1 hT1 z1 h1
  have a2 : h2.get? a = some oa := k2 a oa hai ha
  refine wpAny_bind ?_
  unfold Builtin.Dict_items.ownedTupleIsFree
  refine wpAny_bind (wpAny_field e2 rfl (x := rawInt a) rfl ?_)
  show wpAny _ _ (loadIfAlive ((a : Int).toNat) >>= _) _ _ _
  rw [Int.toNat_natCast]
  refine wpAny_bind (PySem.W.kdx_alive a2 ?_)
  simp only [Option.isNone_some, Bool.false_eq_true, if_false]
  refine wpAny_bind (wpAny_field e2 rfl (x := .bool f) rfl ?_)
  have fin : ∀ h3 : Heap, PySem.W.KdxIt h3 it d (i + 1) es.size ep ok ov a true → Heap.SameBut it h2 h3 → Q (some (.ref hp.objs.size)) ⟨h3, g, dr, tk, os⟩ := fun h3 e3 s3 =>
    hQ h3 e3 (s3.extBut _ _ (Nat.ne_of_gt il) t2) (by show h3.objs.size = hp.objs.size + 1; rw [s3.1, z2]) fun b o hb e => s3.extBut b o hb (k2 b o hb e)
  cases f with
  | true =>
    rw [if_neg (show ¬ (Value.bool true != Value.bool true) = true from Bool.false_ne_true)]
    refine wpAny_pure ?_
    simp only [Bool.false_eq_true, if_false]
    exact wpAny_pure (wpAny_pure ⟨_, rfl, wpAny_pure (fin h2 e2 (Heap.SameBut.refl _ _))⟩)
  | false =>
    rw [if_pos (show (Value.bool false != Value.bool true) = true from rfl)]
    refine wpAny_bind (wpAny_setField_rec e2 (by simp) fun h3 e3 s3 => ?_)
    replace s3 : Heap.SameBut it h2 h3 := s3
    replace e3 : PySem.W.KdxIt h3 it d (i + 1) es.size ep ok ov a true := e3
    refine wpAny_pure ?_
    simp only [Bool.false_eq_true, if_false]
    exact wpAny_pure (wpAny_pure ⟨_, rfl, wpAny_pure (fin h3 e3 s3)⟩)
theorem end_any {it d : Addr} {i ep : Nat} {es : Array DictEntry} {ok ov x0 xf : Value} {Q : Option Value → Shared → Prop} (hh : A.handled = none) (hit : s.heap.get? it = some { cls := .type "dict_itemiterator", dict := none, data := .fields #[x0, xf, .ref d, .int i 0, .int es.size 0, .int ep 0, ok, ov], slots := #[] }) (hm : Dr s.heap d es ep) (hx : es.size ≤ i)
    (hQ : ∀ h', Heap.ExtBut it s.heap h' → Q none { s with heap := h' }) : wpAny (model prog w) A (pyNext (.ref it)) Q E s := by
  obtain ⟨od, hod, _, hdd⟩ := hm
  have hT : s.TypeIs (.ref it) "dict_itemiterator" := ⟨_, hit, rfl⟩
  unfold pyNext
  refine wpAny_bind (wpAny_attempt (wpAny_callSpecial?_slot (name := Str.ofString "__next__") hT PySem.F.slot_dict_itemiterator_next (wpAny_call_entry PySem.F.slot_dict_itemiterator_next hT PySem.F.entry_dict_itemiterator_next ?_ (PySem.F.args_dict_itemiterator_next_1 _))))
  refine wpAny_bind (wpAny_pure (wpAny_bind (wpAny_bind ?_)))
  refine wpAny_bind (wpAny_typeNameOfWhole_itemiter hT (wpAny_pure (wpAny_bind (wpAny_fieldsOf hit rfl ?_))))
  have own : Builtin.Dict_items.ownsTuple "dict_itemiterator" = true := by decide
  simp only [own, if_true]
  show wpAny _ _ (ite ((Value.ref d == Value.none) = true) _ _) _ _ _
  rw [if_neg (show ¬ (Value.ref d == Value.none) = true from Bool.false_ne_true)]
  refine wpAny_bind (wpAny_pure (wpAny_bind (wpAny_dictEntries hod hdd ?_)))
  rw [if_neg (by simp)]
  refine wpAny_bind (wpAny_pure (wpAny_bind (wpAny_dictEpoch hod hdd ?_)))
  rw [if_neg (by simp)]
  refine wpAny_pure ?_
  simp only [show ¬ ((i : Int) < 0) by omega, if_false, Int.toNat_natCast, Array.getElem?_eq_none hx]
  refine wpAny_bind (wpAny_bind (wpAny_typeNameOfWhole_itemiter hT (wpAny_pure ?_)))
  show wpAny _ _ (setField (.ref it) 2 .none >>= _) _ _ s
  refine wpAny_bind (wpAny_setField hit rfl (by simp) ?_)
  show wpAny _ _ (newExc (.type "StopIteration") [] >>= _) _ _ _
  refine wpAny_bind ?_
  simp only [newExc, newTuple]
  refine wpAny_bind (wpAny_newObj_type ?_ (by size_fits))
  refine wpAny_bind (m := firstArgMember _ _) (wpAny_of_eq (a := Value.none) (by first | rfl | (simp only [firstArgMember]; rfl)) (wpAny_newObj_type ?_ (by size_fits)))
  simp only [raiseNew]
  refine wpAny_bind (wpAny_handled ?_)
  rw [show A.in1.handled = none from hh]
  refine wpAny_bind (wpAny_pure (wpAny_throw ?_))
  refine wpAny_bind (wpAny_isInstance (T := "StopIteration") (b := true) ⟨_, Heap.get?_push_size _ rfl, rfl⟩ isSubtype_stop ?_)
  exact wpAny_pure (hQ _ (((Heap.SameBut.update ..).extBut.push _).push _))
end
end Pa

end
section
set_option Elab.async false
set_option linter.all false
set_option maxRecDepth 100000
set_option maxHeartbeats 2000000
namespace Pa
open PySem PySem.Spec PyProof.Rows L2
section
variable {X : Cx} {pins : List (Addr × Obj)} {σ : L2.St} {H : Hp} {s : Shared} {d : Addr} {o : Obj}
/-- the entries of a dict with tuple keys -/
theorem dT_raw {kvs : List (List Key × V)} (I : Inv X pins σ H s) (h : Rd H d (.dT kvs)) : (d == sysModules) = false ∧ kvs.length ≤ sizeLine ∧ ∃ (es : Array DictEntry) (ep : Nat), Dr s.heap d es ep ∧ es.size = kvs.length ∧
    ∀ (i : Nat) (k : List Key) (v : V), kvs[i]? = some (k, v) → ∃ (en : DictEntry) (q : Addr), es[i]? = some en ∧ en.key = .ref q ∧ H q = some (.tup (k.map kV)) ∧ RelV v en.val := by
  obtain ⟨z, hs, xs, pr, o', es, ep, ho, hx, hdt, he, _⟩ := (show ObjOk X.prog X.w H s.heap d (.dT kvs) from rd_of I.hok h)
  refine ⟨hs, z, es, ep, ⟨o', ho, hx, hdt⟩, ?_, fun i k v e => ?_⟩
  · have l1 : es.size = xs.length := size_of_entries he
    have l2 : kvs.length = xs.length := Paired.length pr
    omega
  · obtain ⟨b, hb, e1, e2, e3⟩ := paired_get pr e
    have q := entry_at he i
    rw [hb] at q
    exact ⟨_, b.2.1, q, rfl, e2, e3⟩
end
/-- the pairs of the locked dict, each a new tuple of the key's own tuple and the value -/
noncomputable def ItiT (d : Addr) (o : Obj) (kvs : List (List Key × V)) : It :=
  ⟨fun i H => H d = some (.frz o (.dT kvs)) ∧ i < kvs.length, fun i H x H' => ∃ (T q : Addr) (k : List Key) (v : V), kvs[i]? = some (k, v) ∧ x = .ref T ∧ H T = none ∧ H q = some (.tup (k.map kV)) ∧ H' = upd H T (.tup [.ref q, v]), fun i H => H d = some (.frz o (.dT kvs)) ∧ kvs.length ≤ i⟩
section
variable {P : Program} {w : World} {K : PySem.W.Frag} {d : Addr} {o : Obj} {es : Array DictEntry} {ep : Nat}
theorem turn_itemsT {kvs : List (List Key × V)} {elts : List Expr} {kk : Nat} {tpos : Pos} (it : Addr) (hod : o.data = .dict es ep) (hez : es.size = kvs.length) :
    L2.Turn P w K (.Tuple elts kk tpos) (ItiT d o kvs) [it] it (fun i h => ∃ ok ov, IsItemIter h it d i es.size ep ok ov) where
  mem := by simp
  obj := fun i h st b hb => by
    have e : b = it := by simpa using hb
    subst e
    obtain ⟨ok, ov, e⟩ := st
    exact ⟨_, e, fun v z => nomatch z⟩
  keep := fun i h h' st k => let ⟨ok, ov, e⟩ := st; ⟨ok, ov, k it (by simp) _ e⟩
  item := by
    intro X hP hw hK hc i pins s σ H E I hf st hg
    subst hP hw hK
    obtain ⟨hd, hi⟩ := hg
    obtain ⟨hs, hz0, es', ep', hD, hsz, ent⟩ := dT_raw I (.inr ⟨o, hd⟩)
    have eo : s.heap.get? d = some o := (I.hok d _ hd).1
    obtain ⟨rfl, rfl⟩ : es' = es ∧ ep' = ep := by
      obtain ⟨o2, ho2, _, hd2⟩ := id hD
      rw [eo] at ho2
      cases ho2
      exact dict_ep hod hd2
    obtain ⟨⟨k, v⟩, hkv⟩ : ∃ p, kvs[i]? = some p := ⟨kvs[i], List.getElem?_eq_getElem hi⟩
    obtain ⟨en, q, hen, ek, hq, rv⟩ := ent i k v hkv
    obtain ⟨ok, ov, he⟩ := st
    have hlt : it < s.heap.objs.size := Heap.lt_size he
    refine next_free he hD hen fun h1 ho hT hz hk => ?_
    refine ⟨_, rfl, wpAny_letOwnedTupleGo_items (s := { s with heap := h1 }) ho fun h2 he2 sb => ?_⟩
    have hT2 : h2.get? s.heap.objs.size = some { cls := .type "tuple", data := .seq #[en.key, en.val] } := (sb.2 _ (Nat.ne_of_gt hlt)).trans hT
    have new : ObjOk X.prog X.w (upd H s.heap.objs.size (.tup [.ref q, v])) h2 s.heap.objs.size (.tup [.ref q, v]) :=
      ⟨by show 2 ≤ sizeLine; decide, [en.key, en.val], .cons ek (.cons rv .nil), ⟨_, hT2, rfl, _, rfl⟩⟩
    have I1 : Inv X pins σ (upd H s.heap.objs.size (.tup [.ref q, v])) { s with heap := h2 } :=
      I.turnedNew (t' := s.toks) (ch := [it]) (fun b ob hb e => (sb.2 b (by simpa using hb)).trans (hk b ob (by simpa using hb) e)) hf (Nat.le_refl _) new
    refine ⟨.ref s.heap.objs.size, _, I1, rfl, ⟨_, q, k, v, hkv, rfl, I.hok.fresh (Nat.le_refl _), hq, rfl⟩, ⟨_, _, he2⟩, fun b hb => ?_⟩
    have e : b = it := by simpa using hb
    rw [e, upd_ne (Nat.ne_of_lt hlt)]
    exact (hf it (by simp)).1
  done := by
    intro X hP hw hK hc i pins s σ H E I hf st hg
    subst hP hw hK
    obtain ⟨hd, hi⟩ := hg
    obtain ⟨f0, f1, f2, f3, f4, f5⟩ := hf it (by simp)
    obtain ⟨hs, hz0, es', ep', hD, hsz, ent⟩ := dT_raw I (.inr ⟨o, hd⟩)
    have eo : s.heap.get? d = some o := (I.hok d _ hd).1
    obtain ⟨rfl, rfl⟩ : es' = es ∧ ep' = ep := by
      obtain ⟨o2, ho2, _, hd2⟩ := id hD
      rw [eo] at ho2
      cases ho2
      exact dict_ep hod hd2
    obtain ⟨ok, ov, he⟩ := st
    exact end_any (I.ok.hd hc) he hD (by omega) fun h' eb => ⟨rfl, I.turned (t' := s.toks) (fun b ob hb e => eb b ob hb e) f0 f1 f3 f4 f5⟩
  self := fun A i s Q E st h => let ⟨_, _, e⟩ := st; PySem.W.kcp_self e h
end
/-- for a, b in d.items(), the keys tuples; d is locked -/
noncomputable def iItemsT (td : TE) : TI := fun σ H R => td σ H fun x H1 => ∃ d o kvs, x = .ref d ∧ H1 d = some (.frz o (.dT kvs)) ∧ R (ItiT d o kvs) H1
section
variable {X : Cx} {tg e : Expr} {td : TE} {apos cpos : Pos}
theorem pi_itemsT {elts : List Expr} {kk : Nat} {tpos : Pos} (he : PE X e td) (hbase : attributeBase e "items" X.env (eval e X.env) = eval e X.env := by rfl) (hline : (apos.endLine == cpos.line) = true := by rfl) :
    PI X (.Tuple elts kk tpos) (.Call (.Attribute e "items" apos) [] [] cpos) (iItemsT td) := by
  intro pins s σ H R I h
  refine wpAny_Call_method (T := "dict") (id := "dict.items") hbase rfl hline PySem.F.plainAttrs_dict PySem.F.slot_dict_items PySem.F.type_dict_items (thn (he pins s σ H _ I h) fun u s1 ⟨x, H1, I1, rx, d, o, kvs, ex, hd, q⟩ => ?_)
  subst ex
  obtain rfl : u = Value.ref d := rx
  obtain ⟨hs, hz0, es, ep, hD, hsz, ent⟩ := dT_raw I1 (.inr ⟨o, hd⟩)
  have eo : s1.heap.get? d = some o := (I1.hok d _ hd).1
  have hod : o.data = .dict es ep ∧ o.dict = none := by
    obtain ⟨o2, ho2, hx2, hd2⟩ := id hD
    rw [eo] at ho2
    cases ho2
    exact ⟨hd2, hx2.2.1⟩
  refine ⟨hD.typeIs, fun b z => ?_, ?_⟩
  · cases z
    exact ⟨o, eo, hod.2⟩
  have I2 : Inv X pins σ H1 { s1 with heap := s1.heap.push { cls := .type "dict_items", data := .fields #[.ref d] } } := I1.kept (t' := s1.toks) fun b ob q => Heap.get?_push_of_some _ q
  have fin : wpAny (model X.prog X.w) X.A (pyIter (.ref s1.heap.objs.size)) (PIE X pins σ (.Tuple elts kk tpos) R) X.xe { s1 with heap := s1.heap.push { cls := .type "dict_items", data := .fields #[.ref d] } } := by
    refine iter_raw (d := d) ⟨_, Heap.get?_push_size _ rfl, rfl, rfl⟩ (hD.keep fun o e => Heap.get?_push_of_some _ e) (pi_one (tk := s1.toks) I2 _ (turn_itemsT _ hod.1 hsz) ⟨.none, .none, ?_⟩ q)
    exact Heap.get?_push_size _ rfl
  show wpAny _ _ (callWith cpos (.builtin "dict.items") [.ref d] [] []) _ X.xe s1
  exact method_meetsIn PySem.F.slot_dict_items PySem.F.entry_dict_items rfl (PySem.evalArgs_none ⟨rfl, hD.typeIs, PySem.F.args_dict_items_1 _, _, view_raw d hs, ⟨es, ep, hD⟩, fin⟩)
/-- the view of the pairs -/
noncomputable def viewOf (v d : Addr) : HO := .ext fun h => h.get? v = some { cls := .type "dict_items", data := .fields #[.ref d] }
noncomputable def tItems (td : TE) : TE := fun σ H Q => td σ H fun x H1 => ∃ d kvs, x = .ref d ∧ H1 d = some (.dT kvs) ∧ ∀ v, H1 v = none → Q (.ref v) (upd H1 v (viewOf v d))
theorem pe_items (he : PE X e td) (hbase : attributeBase e "items" X.env (eval e X.env) = eval e X.env := by rfl) (hline : (apos.endLine == cpos.line) = true := by rfl) :
    PE X (.Call (.Attribute e "items" apos) [] [] cpos) (tItems td) := by
  intro pins s σ H Q I h
  refine wpAny_Call_method (T := "dict") (id := "dict.items") hbase rfl hline PySem.F.plainAttrs_dict PySem.F.slot_dict_items PySem.F.type_dict_items (thn (he pins s σ H _ I h) fun u s1 ⟨x, H1, I1, rx, d, kvs, ex, hd, q⟩ => ?_)
  subst ex
  obtain rfl : u = Value.ref d := rx
  obtain ⟨hs, hz0, es, ep, hD, hsz, ent⟩ := dT_raw I1 (.inl hd)
  refine ⟨hD.typeIs, fun b z => ?_, ?_⟩
  · cases z
    obtain ⟨o2, ho2, hx2, hd2⟩ := id hD
    exact ⟨o2, ho2, hx2.2.1⟩
  show wpAny _ _ (callWith cpos (.builtin "dict.items") [.ref d] [] []) _ X.xe s1
  refine method_meetsIn PySem.F.slot_dict_items PySem.F.entry_dict_items rfl (PySem.evalArgs_none ⟨rfl, hD.typeIs, PySem.F.args_dict_items_1 _, _, view_raw d hs, ⟨es, ep, hD⟩, ?_⟩)
  have ev : (s1.heap.push { cls := .type "dict_items", data := .fields #[.ref d] }).get? s1.heap.objs.size = some { cls := .type "dict_items", data := .fields #[.ref d] } := Heap.get?_push_size _ rfl
  refine ⟨.ref s1.heap.objs.size, _, I1.laid (a := s1.heap.objs.size) (o := viewOf s1.heap.objs.size d) (t' := s1.toks) (fun _ _ q => Heap.get?_push_of_some _ q) (Nat.le_refl _) ⟨ev, ⟨_, ev⟩, fun h1 h2 p k => k _ p⟩, rfl, q _ (I1.hok.fresh (Nat.le_refl _))⟩
end
end Pa

end
section
set_option Elab.async false
set_option linter.all false
set_option maxRecDepth 100000
set_option maxHeartbeats 2000000
/-! list(d.items()): a new list of new pairs. -/
namespace Pa
open PySem PySem.Spec PyProof.Rows L2
/-- the pairs laid so far -/
structure Prs (es : Array DictEntry) (lo : Addr) (h : Heap) (as : List Addr) : Prop where
  rise : as.Pairwise (· < ·)
  above : ∀ a ∈ as, lo < a
  pair : ∀ (j : Nat) (a : Addr), as[j]? = some a → ∃ en : DictEntry, es[j]? = some en ∧ h.get? a = some { cls := .type "tuple", data := .seq #[en.key, en.val] }
section
variable {prog : Program} {w : World} {A : Around} {E : Value → Shared → Prop} {s : Shared} {es : Array DictEntry} {ep : Nat}
theorem any_next {it d S : Addr} {i : Nat} {en : DictEntry} {Q : Option Value → Shared → Prop} (st : PySem.W.KdxSt s.heap it d S i es.size ep) (hS : S < s.heap.objs.size) (hm : Dr s.heap d es ep) (hx : es[i]? = some en)
    (hQ : ∀ h', PySem.W.KdxSt h' it d S (i + 1) es.size ep → h'.get? s.heap.objs.size = some { cls := .type "tuple", data := .seq #[en.key, en.val] } → h'.objs.size = s.heap.objs.size + 1 →
      (∀ b o, b ≠ it → s.heap.get? b = some o → h'.get? b = some o) → Q (some (.ref s.heap.objs.size)) { s with heap := h' }) : wpAny (model prog w) A (pyNext (.ref it)) Q E s := by
  rcases st with ⟨rfl, ok, ov, hit⟩ | ⟨ok, ov, a, f, oa, hit, ha, hai, haS⟩
  · exact next_free hit hm hx fun h' hit2 ht hz kp => hQ h' (.inr ⟨_, _, _, false, _, hit2, ht, Nat.ne_of_gt (Heap.lt_size hit), Nat.ne_of_gt hS⟩) ht hz kp
  · exact next_kept hit ha hai hm hx fun h' hit2 ht hz kp => hQ h' (.inr ⟨ok, ov, a, true, oa, hit2, kp a oa hai ha, hai, haS⟩) ht hz kp
theorem any_end {it d S : Addr} {i : Nat} {Q : Option Value → Shared → Prop} (hh : A.handled = none) (st : PySem.W.KdxSt s.heap it d S i es.size ep) (hm : Dr s.heap d es ep) (hx : es.size ≤ i)
    (hQ : ∀ h', Heap.ExtBut it s.heap h' → Q none { s with heap := h' }) : wpAny (model prog w) A (pyNext (.ref it)) Q E s := by
  rcases st with ⟨rfl, ok, ov, hit⟩ | ⟨ok, ov, a, f, oa, hit, _, _, _⟩
  · exact end_any hh hit hm hx hQ
  · exact end_any hh hit hm hx hQ
end
section
variable {prog : Program} {w : World} {A : Around} {s : Shared} {R : Result → Shared → Prop} {es : Array DictEntry} {ep : Nat}
theorem fill_loop {S I d : Addr} (hh : A.handled = none) (hSI : S < I) (hSd : d ≠ S) (hId : d ≠ I) (hn : es.size ≤ sizeLine) (res : Value) {h0 : Heap}
    (hR : ∀ h' tk acc c as, (∀ b o, b ≠ S → b ≠ I → h0.get? b = some o → h'.get? b = some o) → h'.get? S = some { cls := .type "list", dict := none, data := .seq acc c, slots := #[] } → as.length = es.size → Prs es I h' as →
      acc.toList = as.map Value.ref → R (.ok (.ret res)) { s with heap := h', toks := tk }) :
    ∀ (k i : Nat) (h : Heap) (tk c : Nat) (acc : Array Value) (as : List Addr), es.size - i = k → i ≤ es.size → PySem.W.KdxSt h I d S i es.size ep → Dr h d es ep → (∀ b o, b ≠ S → b ≠ I → h0.get? b = some o → h.get? b = some o) →
      h.get? S = some { cls := .type "list", dict := none, data := .seq acc c, slots := #[] } → acc.toList = as.map Value.ref → as.length = i → Prs es I h as → I < h.objs.size →
      codeAny (model prog w) A (.builtin "list.extend.loop" ⟨[.ref S, .ref I, res], []⟩) R { s with heap := h, toks := tk } := by
  have hne : S ≠ I := Nat.ne_of_lt hSI
  intro k
  induction k with
  | zero =>
    intro i h tk c acc as hk hi st hD h0k hS hacc hal pr hIs
    have hi2 : i = es.size := by omega
    refine codeAny_builtin PySem.F.entry_extend_loop ?_
    rw [Around.under_plainId PySem.F.plain_extend_loop _]
    show wpAny _ A.in1 (pyNext (.ref I) >>= _) _ _ _
    refine wpAny_bind (any_end (s := { s with heap := h, toks := tk }) (A := A.in1) hh st hD (by omega) fun h' he => ?_)
    refine wpAny_pure (hR h' tk acc c as (fun b o h1 h2 e => he b o h2 (h0k b o h1 h2 e)) (he S _ hne hS) (by omega) ⟨pr.rise, pr.above, fun j a hj => ?_⟩ hacc)
    obtain ⟨en, e1, e2⟩ := pr.pair j a hj
    exact ⟨en, e1, he a _ (Nat.ne_of_gt (pr.above a (List.mem_of_getElem? hj))) e2⟩
  | succ k ih =>
    intro i h tk c acc as hk hi st hD h0k hS hacc hal pr hIs
    have hlt : i < es.size := by omega
    have hx : es[i]? = some es[i] := Array.getElem?_eq_getElem hlt
    have hsz : acc.size = i := by rw [← Array.length_toList, hacc, List.length_map, hal]
    refine codeAny_builtin PySem.F.entry_extend_loop ?_
    rw [Around.under_plainId PySem.F.plain_extend_loop _]
    show wpAny _ A.in1 (pyNext (.ref I) >>= _) _ _ _
    refine wpAny_bind (any_next (s := { s with heap := h, toks := tk }) (S := S) st (Heap.lt_size hS) hD hx fun h' st2 ht hz kp => ?_)
    dsimp only at ht hz kp ⊢
    have hS2 := kp S _ hne hS
    have up : ∀ b o, b ≠ S → h'.get? b = some o → (h'.update S (Obj.mapSeq (·.push (Value.ref h.objs.size)))).get? b = some o := fun b o hb e => (Heap.get?_update_other _ _ (Ne.symm hb)).trans e
    have hSl : S < h.objs.size := Heap.lt_size hS
    show wpAny _ A.in1 (updateSeq S (·.push (Value.ref h.objs.size)) >>= _) _ _ _
    refine wpAny_bind ?_
    refine wpAny_updateSeq hS2 rfl (wpAny_pure ⟨plainId_quiet PySem.F.plain_extend_loop _, ih (i + 1) _ tk _ (acc.push (Value.ref h.objs.size)) (as ++ [h.objs.size]) (by omega) hlt (st2.keep up (Ne.symm hne)) (hD.keep fun o e => up d o hSd (kp d o hId e))
      (fun b o h1 h2 e => up b o h1 (kp b o h2 (h0k b o h1 h2 e))) (Heap.get?_update_self _ hS2 rfl) (by rw [Array.toList_push, hacc, List.map_append]; rfl) (by rw [List.length_append, hal]; rfl) ⟨?_, ?_, ?_⟩ ?_⟩) (by rw [hsz]; omega) (by show (acc.push (Value.ref h.objs.size)).size ≤ sizeLine + 1; rw [Array.size_push, hsz]; omega)
    · refine List.pairwise_append.mpr ⟨pr.rise, List.pairwise_singleton _ _, fun a ha b hb => ?_⟩
      rw [List.mem_singleton.mp hb]
      obtain ⟨j, hj⟩ := List.mem_iff_getElem?.mp ha
      obtain ⟨_, _, e⟩ := pr.pair j a hj
      exact Heap.lt_size e
    · intro a ha
      rcases List.mem_append.mp ha with ha | ha
      · exact pr.above a ha
      · rw [List.mem_singleton.mp ha]; exact hIs
    · intro j b hj
      rcases Nat.lt_trichotomy j as.length with h1 | h1 | h1
      · rw [List.getElem?_append_left h1] at hj
        obtain ⟨en, e1, e2⟩ := pr.pair j b hj
        have hb := pr.above b (List.mem_of_getElem? hj)
        exact ⟨en, e1, up b _ (Nat.ne_of_gt (Nat.lt_trans hSI hb)) (kp b _ (Nat.ne_of_gt hb) e2)⟩
      · subst h1
        have hb : h.objs.size = b := by simpa using hj
        subst hb
        exact ⟨es[i], by rw [hal]; exact hx, up _ _ (Nat.ne_of_gt hSl) ht⟩
      · rw [List.getElem?_eq_none (by rw [List.length_append, List.length_singleton]; omega)] at hj
        cases hj
    · have e : (h'.update S (Obj.mapSeq (·.push (Value.ref h.objs.size)))).get? h.objs.size = _ := up _ _ (Nat.ne_of_gt hSl) ht
      exact Nat.lt_trans hIs (Heap.lt_size e)
end
section
variable {prog : Program} {w : World} {A : Around} {E : Value → Shared → Prop} {s : Shared} {r d : Addr} {es : Array DictEntry} {ep : Nat}
theorem fill_extend {R : Result → Shared → Prop} (hh : A.handled = none) (hv : s.heap.IsItemsView r d) (hm : Dr s.heap d es ep) (S : Addr) (hSr : S ≠ r) (hSd : d ≠ S) (res : Value) (c0 : Nat) (hS : s.heap.get? S = some { cls := .type "list", data := .seq #[] c0 })
    (hR : ∀ h' tk acc c as, (∀ b o, b ≠ S → s.heap.get? b = some o → h'.get? b = some o) → h'.get? S = some { cls := .type "list", dict := none, data := .seq acc c, slots := #[] } → as.length = es.size → Prs es s.heap.objs.size h' as →
      acc.toList = as.map Value.ref → R (.ok (.ret res)) { s with heap := h', toks := tk }) (hn : es.size ≤ sizeLine) :
    wpAny (model prog w) A.in1 (Builtin.List.listExtendWith (.ref S) (.ref r) res)
      (fun fin s' => match fin with | .done f => R (.ok f) s' | .again c' => c'.quiet = true ∧ codeAny (model prog w) A c' R s') (fun e s' => R (.error e) s') s := by
  have hSI : S < s.heap.objs.size := Heap.lt_size hS
  have hdI : d < s.heap.objs.size := hm.lt
  have key : ∀ (h : Heap) (c1 tk : Nat), (∀ b o, b ≠ S → (s.heap.push { cls := .type "dict_itemiterator", data := .fields #[.none, .bool false, .ref d, .int 0 0, .int es.size 0, .int ep 0, .none, .none] }).get? b = some o → h.get? b = some o) →
      h.get? S = some { cls := .type "list", data := .seq #[] c1 } → codeAny (model prog w) A (.builtin "list.extend.loop" ⟨[.ref S, .ref s.heap.objs.size, res], []⟩) R { s with heap := h, toks := tk } := by
    intro h c1 tk hk hS1
    have hI := hk s.heap.objs.size _ (Nat.ne_of_gt hSI) (Heap.get?_push_size _ rfl)
    refine fill_loop (es := es) (ep := ep) (s := s) (h0 := s.heap) hh hSI hSd (Nat.ne_of_lt hdI) hn res (fun h' tk' acc c as hk' hS' hl pr hacc => hR h' tk' acc c as (fun b o hb e => hk' b o hb (Nat.ne_of_lt (Heap.lt_size e)) e) hS' hl pr hacc)
      es.size 0 h tk c1 #[] [] (Nat.sub_zero _) (Nat.zero_le _) (.inl ⟨rfl, .none, .none, hI⟩) (hm.keep fun o e => hk d o hSd (Heap.get?_push_of_some _ e)) (fun b o hb _ e => hk b o hb (Heap.get?_push_of_some _ e)) hS1 rfl rfl
      ⟨List.Pairwise.nil, (fun _ ha => nomatch ha), (fun j a hj => by simp at hj)⟩ (Heap.lt_size hI)
  unfold Builtin.List.listExtendWith
  refine wpAny_bind (wpAny_typeOf (T := "dict_items") hv.typeIs ?_)
  have q1 : Builtin.List.listSameRef (.ref S) (.ref r) = false := by simp [Builtin.List.listSameRef, hSr]
  have q2 : (Value.type "dict_items" == Value.type "list") = false := by decide
  have q3 : (Value.type "dict_items" == Value.type "tuple") = false := by decide
  simp only [q1, q2, q3, Bool.or_false, Bool.false_eq_true, if_false]
  refine wpAny_bind (iter_raw hv hm ?_)
  have hS1 := Heap.get?_push_of_some { cls := .type "dict_itemiterator", data := .fields #[.none, .bool false, .ref d, .int 0 0, .int es.size 0, .int ep 0, .none, .none] } hS
  refine wpAny_bind (wpAny_holding (PySem.W.kdx_hint (let ⟨o, ho, hc, _⟩ := hv; ⟨o, Heap.get?_push_of_some _ ho, hc⟩) ?_))
  refine wpAny_ite_split (fun _ => ?_) (fun _ => wpAny_pure ⟨plainId_quiet PySem.F.plain_extend_loop _, key _ c0 _ (fun b o _ e => e) hS1⟩)
  refine wpAny_bind (wpAny_rule (wpAny_bind ?_))
  show wpAny _ _ (updateSeq S (·.push .none) >>= fun _ => updateSeq S (·.pop)) _ _ _
  refine wpAny_bind (wpAny_updateSeq hS1 rfl ?_)
  have hS2 := Heap.get?_update_self (Obj.mapSeq (·.push Value.none)) hS1 rfl
  refine wpAny_updateSeq (hz := by seq_fits) hS2 rfl ?_
  have hS3 := Heap.get?_update_self (Obj.mapSeq (·.pop)) hS2 rfl
  refine wpAny_pure ⟨plainId_quiet PySem.F.plain_extend_loop _, key _ _ _ (fun b o hb e => ?_) hS3⟩
  exact (Heap.get?_update_other _ _ (Ne.symm hb)).trans ((Heap.get?_update_other _ _ (Ne.symm hb)).trans e)
theorem Prs.low {lo lo' : Addr} {h : Heap} {as : List Addr} (g : Prs es lo h as) (hl : lo' ≤ lo) : Prs es lo' h as := ⟨g.rise, fun a ha => Nat.lt_of_le_of_lt hl (g.above a ha), g.pair⟩
theorem fill_init {R : Result → Shared → Prop} (hh : A.handled = none) (hv : s.heap.IsItemsView r d) (hm : Dr s.heap d es ep) (S : Addr) (hSr : S ≠ r) (hSd : d ≠ S) (hS : s.heap.get? S = some { cls := .type "list", data := .seq #[] })
    (hR : ∀ h' tk acc c as, (∀ b o, b ≠ S → s.heap.get? b = some o → h'.get? b = some o) → h'.get? S = some { cls := .type "list", dict := none, data := .seq acc c, slots := #[] } → as.length = es.size → Prs es S h' as →
      acc.toList = as.map Value.ref → R (.ok (.ret .none)) { s with heap := h', toks := tk }) (hn : es.size ≤ sizeLine) :
    wpAny (model prog w) A.in1 (Builtin.«list.__init__» ⟨[.ref S, .ref r], []⟩)
      (fun fin s' => match fin with | .done f => R (.ok f) s' | .again c' => c'.quiet = true ∧ codeAny (model prog w) A c' R s') (fun e s' => R (.error e) s') s := by
  show wpAny _ _ (do let was ← Builtin.List.listItems (.ref S); Builtin.List.listUpdate (.ref S) (fun _ => #[]); letGo was.toList.reverse; Builtin.List.listExtendWith (.ref S) (.ref r) .none) _ _ s
  refine wpAny_bind ?_
  unfold Builtin.List.listItems
  refine wpAny_bind (wpAny_seqItems hS rfl (wpAny_pure ?_))
  show wpAny _ _ (updateSeq S (fun _ => #[]) >>= fun _ => letGo (#[] : Array Value).toList.reverse >>= fun _ => Builtin.List.listExtendWith (.ref S) (.ref r) .none) _ _ s
  refine wpAny_bind (wpAny_updateSeq hS rfl ?_)
  have hS2 := Heap.get?_update_self (Obj.mapSeq (fun _ => (#[] : Array Value))) hS rfl
  have oth : ∀ b o, b ≠ S → s.heap.get? b = some o → (s.heap.update S (Obj.mapSeq (fun _ => (#[] : Array Value)))).get? b = some o := fun b o hb e => (Heap.get?_update_other _ _ (Ne.symm hb)).trans e
  refine wpAny_bind (wpAny_letGo ?_)
  refine fill_extend (es := es) (ep := ep) hh (let ⟨o, ho, x⟩ := hv; ⟨o, oth r o hSr.symm ho, x⟩) (hm.keep fun o e => oth d o hSd e) S hSr hSd .none _ hS2 (fun h' tk acc c as hk hS' hl pr hacc => ?_) hn
  exact hR h' tk acc c as (fun b o hb e => hk b o hb (oth b o hb e)) hS' hl (pr.low (Nat.le_of_lt (Heap.lt_size hS2))) hacc
theorem list_items {Q : Value → Shared → Prop} (hh : A.handled = none) (hv : s.heap.IsItemsView r d) (hm : Dr s.heap d es ep) (hn : es.size ≤ sizeLine)
    (hQ : ∀ h' tk acc c as, (∀ b o, s.heap.get? b = some o → h'.get? b = some o) → h'.get? s.heap.objs.size = some { cls := .type "list", dict := none, data := .seq acc c, slots := #[] } → as.length = es.size → Prs es s.heap.objs.size h' as →
      acc.toList = as.map Value.ref → Q (.ref s.heap.objs.size) { s with heap := h', toks := tk }) : wpAny (model prog w) A (call (.type "list") [.ref r]) Q E s := by
  refine callType_codes (Q₁ := fun obj s1 => obj = .ref s.heap.objs.size ∧ s1 = { s with heap := s.heap.push { cls := .type "list", data := .seq #[] } }) PySem.F.called_list (PySem.F.typeCall_list_1 _) PySem.F.entry_list_init
    (code_list_new _ ⟨rfl, rfl⟩) fun obj s1 h1 => ?_
  obtain ⟨rfl, rfl⟩ := h1
  have hS : (s.heap.push { cls := .type "list", data := .seq #[] }).get? s.heap.objs.size = some { cls := .type "list", data := .seq #[] } := Heap.get?_push_size _ rfl
  have hr : r < s.heap.objs.size := let ⟨_, ho, _⟩ := hv; Heap.lt_size ho
  refine ⟨⟨_, hS, rfl⟩, PySem.F.args_list_init_2 _ _, fill_init (es := es) (ep := ep) (A := A.in1) hh (let ⟨o, ho, x⟩ := hv; ⟨o, Heap.get?_push_of_some _ ho, x⟩) (hm.keep fun o e => Heap.get?_push_of_some _ e) _ (Nat.ne_of_gt hr) (Nat.ne_of_lt hm.lt) hS (fun h' tk acc c as hk hS' hl pr hacc => ?_) hn⟩
  exact ⟨rfl, hQ h' tk acc c as (fun b o e => hk b o (Nat.ne_of_lt (Heap.lt_size e)) (Heap.get?_push_of_some _ e)) hS' hl pr hacc⟩
end
section
variable {X : Cx}
/-- many new things at once -/
theorem laid_many {pins : List (Addr × Obj)} {σ : L2.St} {H H' : Hp} {s : Shared} {h' : Heap} {t' : Nat} (I : Inv X pins σ H s) (k : ∀ b u, s.heap.get? b = some u → h'.get? b = some u) (old : ∀ b, b < s.heap.objs.size → H' b = H b)
    (new : ∀ b u, s.heap.objs.size ≤ b → H' b = some u → ObjOk X.prog X.w H' h' b u) : Inv X pins σ H' { s with heap := h', toks := t' } := by
  have same : ∀ b u, H b = some u → H' b = some u := fun b u e => by rw [old b (I.hok.lt e)]; exact e
  refine I.un ⟨fun b o e _ _ _ => k b o e, fun b o e _ _ _ => ⟨o.slots, k b o e⟩, fun b o e n _ => by rw [old b (Heap.lt_size e)]; exact n, fun b o e _ => ⟨o, k b o e⟩, fun b xs e => same b _ e, fun b o u e => same b _ e, fun b ps e => ⟨#[], by rw [same b _ e]; simp⟩⟩ ?_
  intro b u e
  by_cases hb : s.heap.objs.size ≤ b
  · exact new b u hb e
  · have e0 : H b = some u := by rw [← old b (Nat.lt_of_not_le hb)]; exact e
    exact (I.hok b u e0).stay (fun c v _ q => k c v q) (fun c q => same c _ q) fun c xs q => same c _ q
theorem call_listItems (hc : X.calm = true) : CallR X (.type "list") (fun xs H Q => ∃ (v d : Addr) (kvs : List (List Key × V)), xs = [.ref v] ∧ H v = some (viewOf v d) ∧ H d = some (.dT kvs) ∧
    ∀ (H' : Hp) (L : Addr) (as : List Addr), (∀ b u, H b = some u → H' b = some u) → H L = none → H' L = some (.lst (as.map V.ref)) → as.length = kvs.length →
      (∀ (j : Nat) (a : Addr) (k : List Key) (u : V), as[j]? = some a → kvs[j]? = some (k, u) → ∃ q, H q = some (.tup (k.map kV)) ∧ H a = none ∧ H' a = some (.tup [.ref q, u])) → Q (.ref L) H') := by
  intro pins s σ H xs us Q I r h
  obtain ⟨v, d, kvs, rfl, hv, hd, q⟩ := h
  obtain ⟨u, rfl, rx⟩ := vals1 r
  cases rx
  obtain ⟨ev, _, _⟩ := I.hok v _ hv
  obtain ⟨hs, hz, es, ep, hD, hsz, ent⟩ := dT_raw I (.inl hd)
  refine list_items (I.ok.hd hc) ⟨_, ev, rfl, rfl⟩ hD (by omega) fun h' tk acc c as hk hL hl pr hacc => ?_
  -- what is tracked then
  let pr1 : Nat → HO := fun j => match kvs[j]?, es[j]? with
    | some (k, x), some en => .tup [.ref (match en.key with | .ref q => q | _ => 0), x]
    | _, _ => .tup []
  let H' : Hp := fun b => if b = s.heap.objs.size then some (.lst (as.map V.ref)) else if b ∈ as then some (pr1 (as.idxOf b)) else H b
  have nd : as.Nodup := pr.rise.imp fun h => Nat.ne_of_lt h
  have hLa : ∀ a ∈ as, a ≠ s.heap.objs.size := fun a ha => Nat.ne_of_gt (pr.above a ha)
  have ixof : ∀ (j : Nat) (a : Addr), as[j]? = some a → as.idxOf a = j := fun j a hj => by
    obtain ⟨hj', e⟩ := List.getElem?_eq_some_iff.mp hj
    rw [← e]
    exact nd.idxOf_getElem j hj'
  have hnew : ∀ (j : Nat) (a : Addr) (k : List Key) (x : V), as[j]? = some a → kvs[j]? = some (k, x) → ∃ q en, es[j]? = some en ∧ en.key = .ref q ∧ H q = some (.tup (k.map kV)) ∧ RelV x en.val ∧ H' a = some (.tup [.ref q, x]) := by
    intro j a k x ha hkv
    obtain ⟨en, qq, e1, e2, e3, e4⟩ := ent j k x hkv
    refine ⟨qq, en, e1, e2, e3, e4, ?_⟩
    show (if a = s.heap.objs.size then _ else if a ∈ as then some (pr1 (as.idxOf a)) else H a) = _
    rw [if_neg (hLa a (List.mem_of_getElem? ha)), if_pos (List.mem_of_getElem? ha), ixof j a ha]
    show some (match kvs[j]?, es[j]? with | some (k, x), some en => HO.tup [.ref (match en.key with | .ref q => q | _ => 0), x] | _, _ => .tup []) = _
    rw [hkv, e1]
    simp only [e2]
  have hLs : H' s.heap.objs.size = some (.lst (as.map V.ref)) := if_pos rfl
  have old : ∀ b, b < s.heap.objs.size → H' b = H b := fun b hb => by
    show (if b = s.heap.objs.size then _ else if b ∈ as then some (pr1 (as.idxOf b)) else H b) = _
    rw [if_neg (Nat.ne_of_lt hb), if_neg (fun z => absurd (pr.above b z) (Nat.not_lt.mpr (Nat.le_of_lt hb)))]
  have same : ∀ b u, H b = some u → H' b = some u := fun b u e => by rw [old b (I.hok.lt e)]; exact e
  have I' : Inv X pins σ H' { s with heap := h', toks := tk } := by
    refine laid_many I hk old fun b u hb e => ?_
    by_cases hbL : b = s.heap.objs.size
    · subst hbL
      rw [hLs] at e
      cases e
      refine ⟨by rw [List.length_map]; omega, as.map Value.ref, c, ?_, by rw [hL, ← hacc]⟩
      clear hnew ixof hLa nd pr hl hacc hLs old same H' pr1
      induction as with
      | nil => exact .nil
      | cons a t ih => exact .cons rfl ih
    · have e' : (if b ∈ as then some (pr1 (as.idxOf b)) else H b) = some u := by
        have z : H' b = if b ∈ as then some (pr1 (as.idxOf b)) else H b := if_neg hbL
        rw [← z]; exact e
      by_cases hba : b ∈ as
      · obtain ⟨j, hj⟩ := List.mem_iff_getElem?.mp hba
        have hjl : j < kvs.length := by have := (List.getElem?_eq_some_iff.mp hj).1; omega
        obtain ⟨qq, en, e1, e2, e3, e4, e5⟩ := hnew j b kvs[j].1 kvs[j].2 hj (List.getElem?_eq_getElem hjl)
        rw [e5] at e
        cases e
        obtain ⟨en2, f1, f2⟩ := pr.pair j b hj
        rw [e1] at f1
        cases f1
        exact ⟨by show 2 ≤ sizeLine; decide, [en.key, en.val], .cons e2 (.cons e4 .nil), ⟨_, f2, rfl, _, rfl⟩⟩
      · rw [if_neg hba] at e'
        exact absurd (I.hok.lt e') (Nat.not_lt.mpr hb)
  refine ⟨.ref s.heap.objs.size, H', I', rfl, q H' _ as same (I.hok.fresh (Nat.le_refl _)) hLs (by omega) fun j a k x ha hkv => ?_⟩
  obtain ⟨qq, en, e1, e2, e3, e4, e5⟩ := hnew j a k x ha hkv
  exact ⟨qq, e3, I.hok.fresh (Nat.le_of_lt (pr.above a (List.mem_of_getElem? ha))), e5⟩
end
end Pa

end
section
set_option linter.all false
set_option maxRecDepth 10000
/-! The soonest way: the specification's is the least of all runs to the mark. -/
namespace Pm
open Uw32
noncomputable abbrev Mv := Nat × Nat
noncomputable abbrev Sd := Nat × Nat × Nat × Nat
noncomputable def fl (w : List Mv) : List Int := intsN (flat w)
theorem fl_cons (x : Mv) (w : List Mv) : fl (x :: w) = (x.1 : Int) :: (x.2 : Int) :: fl w := rfl
theorem fl_append (a b : List Mv) : fl (a ++ b) = fl a ++ fl b := by
  unfold fl flat intsN
  rw [List.flatMap_append, List.map_append]
noncomputable def to (p : Pas) (st : Sd) (x : Mv) : Option Sd := match go p st.1 st.2.1 st.2.2.1 st.2.2.2 x with
  | some (d, k) => some (st.1 + k, d, Uw28.sideOf st.2.2.1 x.1 (p.water.wind st.1), x.2)
  | none => none
noncomputable def run (p : Pas) : Sd → List Mv → Option Sd
  | st, [] => some st
  | st, x :: w => (to p st x).bind fun st' => run p st' w
theorem run_snoc (p : Pas) : ∀ (st : Sd) (w : List Mv) (x : Mv), run p st (w ++ [x]) = (run p st w).bind fun st' => to p st' x
  | st, [], x => by
    show (to p st x).bind (fun st' => some st') = to p st x
    cases to p st x <;> rfl
  | st, y :: w, x => by
    show (to p st y).bind (fun st' => run p st' (w ++ [x])) = ((to p st y).bind fun st' => run p st' w).bind fun st' => to p st' x
    cases to p st y with
    | none => rfl
    | some s1 => exact run_snoc p s1 w x
theorem to_go {p : Pas} {st st' : Sd} {x : Mv} (h : to p st x = some st') : ∃ d k, go p st.1 st.2.1 st.2.2.1 st.2.2.2 x = some (d, k) ∧ st' = (st.1 + k, d, Uw28.sideOf st.2.2.1 x.1 (p.water.wind st.1), x.2) ∧ p.water.next st.2.1 x.1 = some d ∧ p.step_ st.1 st.2.2.1 st.2.2.2 x.1 x.2 = some k := by
  unfold to at h
  cases e : go p st.1 st.2.1 st.2.2.1 st.2.2.2 x with
  | none => rw [e] at h; cases h
  | some q =>
    obtain ⟨d, k⟩ := q
    rw [e] at h
    refine ⟨d, k, rfl, (Option.some.inj h).symm, ?_⟩
    unfold go at e
    cases e1 : p.water.next st.2.1 x.1 with
    | none => rw [e1] at e; cases e
    | some d' =>
      cases e2 : p.step_ st.1 st.2.2.1 st.2.2.2 x.1 x.2 with
      | none => rw [e1, e2] at e; cases e
      | some k' =>
        rw [e1, e2] at e
        have e := Option.some.inj e
        cases e
        exact ⟨rfl, rfl⟩
theorem to_min {p : Pas} (g : Good p) {st st' : Sd} {x : Mv} (h : to p st x = some st') : st.1 < st'.1 := by
  obtain ⟨d, k, _, rfl, _, hk⟩ := to_go h
  have := step_pos g hk
  show st.1 < st.1 + k
  omega
theorem run_min {p : Pas} (g : Good p) : ∀ {w : List Mv} {st st' : Sd}, run p st w = some st' → st.1 + w.length ≤ st'.1
  | [], st, st', h => by
    cases (Option.some.inj h)
    exact Nat.le_refl _
  | x :: w, st, st', h => by
    cases e : to p st x with
    | none => simp only [run, e, Option.bind_none] at h; cases h
    | some s1 =>
      simp only [run, e, Option.bind_some] at h
      have h1 := run_min g h
      have h2 := to_min g e
      rw [List.length_cons]
      omega
structure Val (p : Pas) (st : Sd) : Prop where
  c : st.2.1 < p.water.cells
  s : st.2.2.1 < 3
  b : st.2.2.2 ≤ p.bare
theorem mem_moves {p : Pas} {x : Mv} (h1 : x.1 < 8) (h2 : x.2 < p.sails.length) : x ∈ p.moves := by
  unfold Passage.moves
  exact List.mem_flatMap.mpr ⟨x.1, List.mem_range.mpr h1, List.mem_map.mpr ⟨x.2, List.mem_range.mpr h2, rfl⟩⟩
theorem to_val {p : Pas} (g : Good p) {st st' : Sd} {x : Mv} (v : Val p st) (h : to p st x = some st') : Val p st' ∧ x.1 < 8 ∧ x.2 < p.sails.length := by
  obtain ⟨d, k, _, rfl, hn, hk⟩ := to_go h
  have h8 : x.1 < 8 := by
    by_cases z : 8 ≤ x.1
    · unfold Uw28.Water.next at hn
      rw [if_pos z] at hn
      cases hn
    · omega
  have hs : x.2 < p.sails.length := by
    by_cases z : p.sails.length ≤ x.2
    · unfold Passage.step_ at hk
      rw [if_pos (Or.inl z)] at hk
      cases hk
    · omega
  exact ⟨⟨(next_lt g hn).1, sideOf_lt v.s, Nat.le_of_lt hs⟩, h8, hs⟩
theorem run_val {p : Pas} (g : Good p) : ∀ {w : List Mv} {st st' : Sd}, Val p st → run p st w = some st' → Val p st'
  | [], st, st', v, h => by
    cases (Option.some.inj h)
    exact v
  | x :: w, st, st', v, h => by
    cases e : to p st x with
    | none => simp only [run, e, Option.bind_none] at h; cases h
    | some s1 =>
      simp only [run, e, Option.bind_some] at h
      exact run_val g (to_val g v e).1 h
/-! ### the value -/
noncomputable def Vs (p : Pas) (st : Sd) : Option Nat := V p st.1 st.2.1 st.2.2.1 st.2.2.2
theorem minO_fold {f : Mv → Option Nat} : ∀ (l : List Mv) (a : Option Nat), (∀ v, a = some v → ∃ u, l.foldl (fun a x => minO a (f x)) a = some u ∧ u ≤ v) ∧
    (∀ x ∈ l, ∀ v, f x = some v → ∃ u, l.foldl (fun a x => minO a (f x)) a = some u ∧ u ≤ v) ∧ ∀ u, l.foldl (fun a x => minO a (f x)) a = some u → a = some u ∨ ∃ x ∈ l, f x = some u
  | [], a => ⟨fun v h => ⟨v, h, Nat.le_refl _⟩, fun x hx => (by cases hx), fun u h => .inl h⟩
  | y :: r, a => by
    obtain ⟨h1, h2, h3⟩ := minO_fold (f := f) r (minO a (f y))
    have m1 : ∀ v, a = some v → ∃ u, minO a (f y) = some u ∧ u ≤ v := fun v e => by
      subst e
      cases f y with
      | none => exact ⟨v, rfl, Nat.le_refl _⟩
      | some z => exact ⟨min z v, rfl, Nat.min_le_right _ _⟩
    have m2 : ∀ v, f y = some v → ∃ u, minO a (f y) = some u ∧ u ≤ v := fun v e => by
      rw [e]
      cases a with
      | none => exact ⟨v, rfl, Nat.le_refl _⟩
      | some z => exact ⟨min v z, rfl, Nat.min_le_left _ _⟩
    refine ⟨fun v e => ?_, fun x hx v e => ?_, fun u e => ?_⟩
    · obtain ⟨u, e1, l1⟩ := m1 v e
      obtain ⟨u2, e2, l2⟩ := h1 u e1
      exact ⟨u2, e2, Nat.le_trans l2 l1⟩
    · rcases List.mem_cons.mp hx with rfl | hx
      · obtain ⟨u, e1, l1⟩ := m2 v e
        obtain ⟨u2, e2, l2⟩ := h1 u e1
        exact ⟨u2, e2, Nat.le_trans l2 l1⟩
      · exact h2 x hx v e
    · rcases h3 u e with z | ⟨x, hx, z⟩
      · cases hy : f y with
        | none => rw [hy] at z; exact .inl (by cases a <;> exact z)
        | some q =>
          rw [hy] at z
          cases a with
          | none => exact .inr ⟨y, List.Mem.head _, hy.trans z⟩
          | some n =>
            have z : min q n = u := Option.some.inj z
            rcases Nat.le_total q n with le | le
            · rw [Nat.min_eq_left le] at z
              exact .inr ⟨y, List.Mem.head _, by rw [hy, z]⟩
            · rw [Nat.min_eq_right le] at z
              exact .inl (by rw [z])
      · exact .inr ⟨x, List.Mem.tail _ hx, z⟩
theorem behind_to {p : Pas} {st st' : Sd} {x : Mv} (h : to p st x = some st') : behind p st.1 st.2.1 st.2.2.1 st.2.2.2 x = Vs p st' := by
  obtain ⟨d, k, e, rfl, _⟩ := to_go h
  unfold behind
  rw [e]
  rfl
theorem behind_some {p : Pas} {st : Sd} {x : Mv} {v : Nat} (h : behind p st.1 st.2.1 st.2.2.1 st.2.2.2 x = some v) : ∃ st', to p st x = some st' ∧ Vs p st' = some v := by
  unfold behind at h
  cases e : go p st.1 st.2.1 st.2.2.1 st.2.2.2 x with
  | none => rw [e] at h; cases h
  | some q =>
    obtain ⟨d, k⟩ := q
    rw [e] at h
    exact ⟨(st.1 + k, d, Uw28.sideOf st.2.2.1 x.1 (p.water.wind st.1), x.2), by unfold to; rw [e], h⟩
theorem Vs_mark {p : Pas} (g : Good p) {st : Sd} (v : Val p st) (hm : st.1 ≤ 40) (h : st.2.1 = p.water.mark) : Vs p st = some st.1 := by
  unfold Vs
  rw [V_eq g hm v.c v.s v.b, if_pos h]
theorem Vs_best {p : Pas} (g : Good p) {st : Sd} (v : Val p st) (hm : st.1 ≤ 40) (h : ¬ st.2.1 = p.water.mark) : Vs p st = best p st.1 st.2.1 st.2.2.1 st.2.2.2 := by
  unfold Vs
  rw [V_eq g hm v.c v.s v.b, if_neg h]
theorem Vs_le {p : Pas} (g : Good p) : ∀ {w : List Mv} {st st' : Sd}, Val p st → run p st w = some st' → st'.2.1 = p.water.mark → st'.1 ≤ 40 → ∃ v, Vs p st = some v ∧ v ≤ st'.1
  | [], st, st', v, h, hm, h40 => by
    cases (Option.some.inj h)
    exact ⟨_, Vs_mark g v h40 hm, Nat.le_refl _⟩
  | x :: w, st, st', v, h, hm, h40 => by
    have hle := run_min g h
    rw [List.length_cons] at hle
    by_cases hc : st.2.1 = p.water.mark
    · exact ⟨_, Vs_mark g v (by omega) hc, by omega⟩
    · cases e : to p st x with
      | none => simp only [run, e, Option.bind_none] at h; cases h
      | some s1 =>
        simp only [run, e, Option.bind_some] at h
        obtain ⟨v1, x8, xs⟩ := to_val g v e
        obtain ⟨u, hu, hlu⟩ := Vs_le g v1 h hm h40
        obtain ⟨u2, e2, l2⟩ := (minO_fold (f := behind p st.1 st.2.1 st.2.2.1 st.2.2.2) p.moves none).2.1 x (mem_moves x8 xs) u (by rw [behind_to e]; exact hu)
        refine ⟨u2, ?_, Nat.le_trans l2 hlu⟩
        rw [Vs_best g v (by omega) hc]
        exact e2
/-! ### the order of moves -/
noncomputable def ltM (x y : Mv) : Prop := x.1 < y.1 ∨ (x.1 = y.1 ∧ x.2 < y.2)
theorem moves_sorted (p : Pas) : p.moves.Pairwise ltM := by
  unfold Passage.moves
  rw [List.pairwise_flatMap]
  refine ⟨fun h _ => ?_, ?_⟩
  · rw [List.pairwise_map]
    exact List.pairwise_lt_range.imp fun hlt => .inr ⟨rfl, hlt⟩
  · refine List.pairwise_lt_range.imp fun {a b} hlt x hx y hy => ?_
    obtain ⟨i, _, rfl⟩ := List.mem_map.mp hx
    obtain ⟨j, _, rfl⟩ := List.mem_map.mp hy
    exact .inl hlt
theorem find_first {q : Mv → Bool} {l : List Mv} (hs : l.Pairwise ltM) {x y : Mv} (h : l.find? q = some x) (hy : y ∈ l) (hq : q y = true) : x = y ∨ ltM x y := by
  obtain ⟨_, as, bs, rfl, hn⟩ := List.find?_eq_some_iff_append.mp h
  rcases List.mem_append.mp hy with z | z
  · have := hn y z
    rw [hq] at this
    cases this
  · rcases List.mem_cons.mp z with z | z
    · exact .inl z.symm
    · have := (List.pairwise_append.mp hs).2.1
      exact .inr ((List.pairwise_cons.mp this).1 y z)
/-! ### the specification's way is a run to the mark, and none is before it -/
theorem way_least {p : Pas} (g : Good p) : ∀ (f : Nat) (st : Sd) (v : Nat), Val p st → st.1 ≤ 40 → 40 - st.1 ≤ f → Vs p st = some v →
    v ≤ 40 ∧ (∃ st', run p st (p.way (p.tables 40) v f st.1 st.2.1 st.2.2.1 st.2.2.2) = some st' ∧ st'.2.1 = p.water.mark ∧ st'.1 = v) ∧
    ∀ w st'', run p st w = some st'' → st''.2.1 = p.water.mark → st''.1 = v → HT.lexLt (fl w) (fl (p.way (p.tables 40) v f st.1 st.2.1 st.2.2.1 st.2.2.2)) = false
  | f, st, v, va, h40, hf, hv => by
    by_cases hc : st.2.1 = p.water.mark
    · rw [Vs_mark g va h40 hc] at hv
      have hv := Option.some.inj hv
      have ew : p.way (p.tables 40) v f st.1 st.2.1 st.2.2.1 st.2.2.2 = [] := by
        cases f with
        | zero => rfl
        | succ f => rw [way_eq, if_pos hc]
      rw [ew]
      refine ⟨by omega, ⟨st, rfl, hc, hv⟩, fun w st'' h1 h2 h3 => ?_⟩
      have := run_min g h1
      have : w = [] := List.eq_nil_of_length_eq_zero (by omega)
      subst this
      rfl
    · rw [Vs_best g va h40 hc] at hv
      have hne : st.1 ≠ 40 := fun z => by
        rw [z, best_40 p g] at hv
        cases hv
      match f with
      | 0 => omega
      | f + 1 =>
        obtain ⟨x0, hx0, hb0⟩ : ∃ x ∈ p.moves, behind p st.1 st.2.1 st.2.2.1 st.2.2.2 x = some v := by
          rcases (minO_fold (f := behind p st.1 st.2.1 st.2.2.1 st.2.2.2) p.moves none).2.2 v hv with z | z
          · cases z
          · exact z
        have hpred : ∀ x st1, to p st x = some st1 → Vs p st1 = some v → (match go p st.1 st.2.1 st.2.2.1 st.2.2.2 x with
          | some (d, k) => V p (st.1 + k) d (Uw28.sideOf st.2.2.1 x.1 (p.water.wind st.1)) x.2 == some v
          | none => false) = true := fun x st1 h1 h2 => by
          obtain ⟨d, k, e, rfl, _⟩ := to_go h1
          rw [e]
          have h2 : V p (st.1 + k) d (Uw28.sideOf st.2.2.1 x.1 (p.water.wind st.1)) x.2 = some v := h2
          simp [h2]
        rw [way_eq, if_neg hc]
        obtain ⟨s0, t0, v0⟩ := behind_some hb0
        cases hfd : p.moves.find? (fun x => match go p st.1 st.2.1 st.2.2.1 st.2.2.2 x with
          | some (d, k) => V p (st.1 + k) d (Uw28.sideOf st.2.2.1 x.1 (p.water.wind st.1)) x.2 == some v
          | none => false) with
        | none =>
          have := List.find?_eq_none.mp hfd x0 hx0
          rw [hpred x0 s0 t0 v0] at this
          exact absurd rfl this
        | some x =>
          have hq := List.find?_some hfd
          cases eg : go p st.1 st.2.1 st.2.2.1 st.2.2.2 x with
          | none => rw [eg] at hq; cases hq
          | some dk =>
            obtain ⟨d, k⟩ := dk
            rw [eg] at hq
            have hq : V p (st.1 + k) d (Uw28.sideOf st.2.2.1 x.1 (p.water.wind st.1)) x.2 = some v := by simpa using hq
            have t1 : to p st x = some (st.1 + k, d, Uw28.sideOf st.2.2.1 x.1 (p.water.wind st.1), x.2) := by unfold to; rw [eg]
            have m1 := to_min g t1
            have m1 : st.1 < st.1 + k := m1
            obtain ⟨va1, x8, xs⟩ := to_val g va t1
            have hk40 : st.1 + k ≤ 40 := by
              by_cases z : st.1 + k ≤ 40
              · exact z
              · rw [V_out p (by omega)] at hq
                cases hq
            obtain ⟨l40, ⟨st', r1, r2, r3⟩, least⟩ := way_least g f (st.1 + k, d, Uw28.sideOf st.2.2.1 x.1 (p.water.wind st.1), x.2) v va1 hk40 (by show 40 - (st.1 + k) ≤ f; omega) hq
            simp only [eg]
            refine ⟨l40, ⟨st', ?_, r2, r3⟩, fun w st'' h1 h2 h3 => ?_⟩
            · show (to p st x).bind _ = _
              rw [t1]
              exact r1
            · cases w with
              | nil =>
                cases (Option.some.inj h1)
                exact absurd h2 hc
              | cons y w' =>
                cases e : to p st y with
                | none => simp only [run, e, Option.bind_none] at h1; cases h1
                | some s1 =>
                  simp only [run, e, Option.bind_some] at h1
                  obtain ⟨vay, y8, ys⟩ := to_val g va e
                  obtain ⟨u, hu, hlu⟩ := Vs_le g vay h1 h2 (by omega)
                  obtain ⟨u2, e2, l2⟩ := (minO_fold (f := behind p st.1 st.2.1 st.2.2.1 st.2.2.2) p.moves none).2.1 y (mem_moves y8 ys) u (by rw [behind_to e]; exact hu)
                  have eb : some v = some u2 := hv.symm.trans e2
                  have eb := Option.some.inj eb
                  have euv : u = v := by omega
                  subst euv
                  rw [fl_cons, fl_cons, HT.lexLt_cons]
                  rcases find_first (moves_sorted p) hfd (mem_moves y8 ys) (hpred y s1 e hu) with z | z | z
                  · subst z
                    rw [t1] at e
                    have e := Option.some.inj e
                    subst e
                    rw [if_pos rfl, HT.lexLt_cons, if_pos rfl]
                    exact least w' st'' h1 h2 h3
                  · rw [if_neg (by omega)]
                    exact decide_eq_false (by omega)
                  · rw [if_pos (by omega), HT.lexLt_cons, if_neg (by omega)]
                    exact decide_eq_false (by omega)
end Pm

end
section
set_option linter.all false
set_option maxRecDepth 10000
/-! Tables forward, minute by minute: for each stand the least of the runs to it. -/
namespace Pm
open Uw32
theorem run_append (p : Pas) : ∀ (a b : List Mv) (st : Sd), run p st (a ++ b) = (run p st a).bind fun s => run p s b
  | [], b, st => rfl
  | x :: a, b, st => by
    show (to p st x).bind (fun s => run p s (a ++ b)) = ((to p st x).bind fun s => run p s a).bind fun s => run p s b
    cases to p st x with
    | none => rfl
    | some s => exact run_append p a b s
theorem fl_prefix : ∀ (b a : List Mv) (e : List Int), fl a = fl b ++ e → ∃ c, a = b ++ c ∧ e = fl c
  | [], a, e, h => ⟨a, rfl, h.symm⟩
  | x :: b, [], e, h => by rw [fl_cons] at h; cases h
  | x :: b, y :: a, e, h => by
    rw [fl_cons, fl_cons, List.cons_append, List.cons_append] at h
    injection h with h1 h
    injection h with h2 h
    obtain ⟨c, rfl, rfl⟩ := fl_prefix b a e h
    have e1 : y = x := Prod.ext (by omega) (by omega)
    exact ⟨c, by rw [e1]; rfl, rfl⟩
theorem lex_app (c : List Int) : ∀ {a b : List Int}, HT.lexLt a b = false → (∀ e, a = b ++ e → e = []) → HT.lexLt (a ++ c) (b ++ c) = false
  | [], [], _, _ => Pa.lex_irrefl c
  | [], y :: ys, h, _ => by cases h
  | x :: xs, [], _, h => by cases h (x :: xs) rfl
  | x :: xs, y :: ys, h, hp => by
    rw [HT.lexLt_cons] at h
    rw [List.cons_append, List.cons_append, HT.lexLt_cons]
    by_cases e : x = y
    · rw [if_pos e] at h ⊢
      exact lex_app c h fun e' he => hp e' (by rw [he, e]; rfl)
    · rw [if_neg e] at h ⊢
      exact h
theorem lex_anti : ∀ {a b : List Int}, HT.lexLt a b = false → HT.lexLt b a = false → a = b
  | [], [], _, _ => rfl
  | [], y :: ys, h, _ => by cases h
  | x :: xs, [], _, h => by cases h
  | x :: xs, y :: ys, h1, h2 => by
    rw [HT.lexLt_cons] at h1 h2
    by_cases e : x = y
    · rw [if_pos e] at h1
      rw [if_pos e.symm] at h2
      rw [e, lex_anti h1 h2]
    · rw [if_neg e] at h1
      rw [if_neg (Ne.symm e)] at h2
      have := of_decide_eq_false h1
      have := of_decide_eq_false h2
      omega
noncomputable def st0 (p : Pas) : Sd := (0, p.water.boat, 0, p.bare)
theorem val0 {p : Pas} (g : Good p) : Val p (st0 p) := ⟨g.bo, by show 0 < 3; decide, Nat.le_refl _⟩
/-- a run whose last step is among those that are done -/
noncomputable def Via (p : Pas) (Dn : Sd → Mv → Prop) (w : List Mv) : Prop := w = [] ∨ ∃ w' x s, w = w' ++ [x] ∧ run p (st0 p) w' = some s ∧ Dn s x
structure TInv (p : Pas) (Dn : Sd → Mv → Prop) (get : Nat → Sd → Option (List Mv)) : Prop where
  sound : ∀ t s w, t ≤ 40 → get t s = some w → s.1 = t ∧ run p (st0 p) w = some s ∧ Via p Dn w
  least : ∀ t s w, t ≤ 40 → get t s = some w → ∀ w', run p (st0 p) w' = some s → Via p Dn w' → HT.lexLt (fl w') (fl w) = false
  full : ∀ s w, run p (st0 p) w = some s → Via p Dn w → s.1 ≤ 40 → ∃ w', get s.1 s = some w'
/-- two runs to one stand, and a move more -/
theorem more_lex {p : Pas} (g : Good p) {s : Sd} {a b : List Mv} (ha : run p (st0 p) a = some s) (hb : run p (st0 p) b = some s) (h : HT.lexLt (fl a) (fl b) = false) (x : Mv) : HT.lexLt (fl (a ++ [x])) (fl (b ++ [x])) = false := by
  rw [fl_append, fl_append]
  refine lex_app _ h fun e he => ?_
  obtain ⟨c, rfl, rfl⟩ := fl_prefix b a e he
  rw [run_append, hb] at ha
  have := run_min g (show run p s c = some s from ha)
  have : c = [] := List.eq_nil_of_length_eq_zero (by omega)
  rw [this]
  rfl
noncomputable def plus (Dn : Sd → Mv → Prop) (s : Sd) (x : Mv) : Sd → Mv → Prop := fun s' x' => Dn s' x' ∨ (s' = s ∧ x' = x)
theorem Via.plus {p : Pas} {Dn : Sd → Mv → Prop} {s : Sd} {x : Mv} {w : List Mv} (h : Via p Dn w) : Via p (plus Dn s x) w := h.imp id fun ⟨w', y, s', e1, e2, e3⟩ => ⟨w', y, s', e1, e2, .inl e3⟩
theorem via_plus {p : Pas} {Dn : Sd → Mv → Prop} {s : Sd} {x : Mv} {w : List Mv} (h : Via p (Pm.plus Dn s x) w) : Via p Dn w ∨ ∃ w', w = w' ++ [x] ∧ run p (st0 p) w' = some s := by
  rcases h with h | ⟨w', y, s', e1, e2, e3 | ⟨rfl, rfl⟩⟩
  · exact .inl (.inl h)
  · exact .inl (.inr ⟨w', y, s', e1, e2, e3⟩)
  · exact .inr ⟨w', e1, e2⟩
/-- kept for its stand, unless an earlier one is kept -/
noncomputable def kept (get : Nat → Sd → Option (List Mv)) (s2 : Sd) (w : List Mv) : Nat → Sd → Option (List Mv) := fun t s => if t = s2.1 ∧ s = s2 then (match get s2.1 s2 with
  | none => some w
  | some u => if HT.lexLt (fl w) (fl u) = true then some w else some u) else get t s
theorem TInv.put {p : Pas} (g : Good p) {Dn : Sd → Mv → Prop} {get : Nat → Sd → Option (List Mv)} (T : TInv p Dn get) {s s2 : Sd} {x : Mv} {w : List Mv} (h40 : s.1 ≤ 40) (hg : get s.1 s = some w) (closed : ∀ w', run p (st0 p) w' = some s → Via p Dn w')
    (ht : to p s x = some s2) (h2 : s2.1 ≤ 40) : TInv p (plus Dn s x) (kept get s2 (w ++ [x])) := by
  obtain ⟨_, hw, vw⟩ := T.sound _ _ _ h40 hg
  have hr : run p (st0 p) (w ++ [x]) = some s2 := by rw [run_snoc, hw]; exact ht
  have vr : Via p (plus Dn s x) (w ++ [x]) := .inr ⟨w, x, s, rfl, hw, .inr ⟨rfl, rfl⟩⟩
  -- what stands at the stand behind it
  have at2 : ∀ u, (match get s2.1 s2 with | none => some (w ++ [x]) | some u => if HT.lexLt (fl (w ++ [x])) (fl u) = true then some (w ++ [x]) else some u) = some u →
      (run p (st0 p) u = some s2 ∧ Via p (plus Dn s x) u) ∧ HT.lexLt (fl (w ++ [x])) (fl u) = false ∧ ∀ u0, get s2.1 s2 = some u0 → HT.lexLt (fl u0) (fl u) = false := by
    intro u hu
    cases hq : get s2.1 s2 with
    | none =>
      rw [hq] at hu
      have hu := Option.some.inj hu
      subst hu
      exact ⟨⟨hr, vr⟩, Pa.lex_irrefl _, fun u0 z => by cases z⟩
    | some u0 =>
      rw [hq] at hu
      have hu : (if HT.lexLt (fl (w ++ [x])) (fl u0) = true then some (w ++ [x]) else some u0) = some u := hu
      by_cases hl : HT.lexLt (fl (w ++ [x])) (fl u0) = true
      · rw [if_pos hl] at hu
        have hu := Option.some.inj hu
        subst hu
        refine ⟨⟨hr, vr⟩, Pa.lex_irrefl _, fun u1 z => ?_⟩
        have z := Option.some.inj z
        subst z
        exact Pa.lex_asymm hl
      · rw [if_neg hl] at hu
        have hu := Option.some.inj hu
        subst hu
        obtain ⟨_, r0, v0⟩ := T.sound _ _ _ h2 hq
        refine ⟨⟨r0, v0.plus⟩, by simpa using hl, fun u1 z => ?_⟩
        have z := Option.some.inj z
        subst z
        exact Pa.lex_irrefl _
  refine ⟨fun t s' u t40 hu => ?_, fun t s' u t40 hu w' hw' vw' => ?_, fun s' u hu vu u40 => ?_⟩
  · unfold kept at hu
    by_cases hk : t = s2.1 ∧ s' = s2
    · rw [if_pos hk] at hu
      obtain ⟨⟨a1, a2⟩, _⟩ := at2 u hu
      rw [hk.2, hk.1]
      exact ⟨rfl, a1, a2⟩
    · rw [if_neg hk] at hu
      obtain ⟨a1, a2, a3⟩ := T.sound _ _ _ t40 hu
      exact ⟨a1, a2, a3.plus⟩
  · unfold kept at hu
    by_cases hk : t = s2.1 ∧ s' = s2
    · rw [if_pos hk] at hu
      obtain ⟨_, a3, a4⟩ := at2 u hu
      rw [hk.2] at hw'
      rcases via_plus vw' with z | ⟨w'', rfl, hw''⟩
      · obtain ⟨u0, hu0⟩ := T.full s2 w' hw' z h2
        exact Pa.lex_trans (a4 u0 hu0) (T.least _ _ _ h2 hu0 w' hw' z)
      · exact Pa.lex_trans a3 (more_lex g hw'' hw (T.least _ _ _ h40 hg w'' hw'' (closed w'' hw'')) x)
    · rw [if_neg hk] at hu
      rcases via_plus vw' with z | ⟨w'', rfl, hw''⟩
      · exact T.least _ _ _ t40 hu w' hw' z
      · exfalso
        rw [run_snoc, hw''] at hw'
        have e : some s2 = some s' := ht.symm.trans hw'
        have e := Option.some.inj e
        obtain ⟨a1, _⟩ := T.sound _ _ _ t40 hu
        exact hk ⟨by rw [← a1, e], e.symm⟩
  · unfold kept
    by_cases hk : s'.1 = s2.1 ∧ s' = s2
    · rw [if_pos hk]
      cases get s2.1 s2 with
      | none => exact ⟨_, rfl⟩
      | some u0 =>
        show ∃ w', (if HT.lexLt (fl (w ++ [x])) (fl u0) = true then some (w ++ [x]) else some u0) = some w'
        by_cases hl : HT.lexLt (fl (w ++ [x])) (fl u0) = true
        · rw [if_pos hl]; exact ⟨_, rfl⟩
        · rw [if_neg hl]; exact ⟨_, rfl⟩
    · rw [if_neg hk]
      rcases via_plus vu with z | ⟨w'', rfl, hw''⟩
      · exact T.full s' u hu z u40
      · exfalso
        rw [run_snoc, hw''] at hu
        have e : some s2 = some s' := ht.symm.trans hu
        have e := Option.some.inj e
        exact hk ⟨by rw [e], e.symm⟩
/-- a move that can't be made, or gets beyond the last minute -/
theorem TInv.skip {p : Pas} {Dn : Sd → Mv → Prop} {get : Nat → Sd → Option (List Mv)} (T : TInv p Dn get) {s : Sd} {x : Mv} (h : ∀ s2, to p s x = some s2 → 40 < s2.1) : TInv p (plus Dn s x) get := by
  refine ⟨fun t s' u t40 hu => ?_, fun t s' u t40 hu w' hw' vw' => ?_, fun s' u hu vu u40 => ?_⟩
  · obtain ⟨a1, a2, a3⟩ := T.sound _ _ _ t40 hu
    exact ⟨a1, a2, a3.plus⟩
  · rcases via_plus vw' with z | ⟨w'', rfl, hw''⟩
    · exact T.least _ _ _ t40 hu w' hw' z
    · exfalso
      obtain ⟨a1, _⟩ := T.sound _ _ _ t40 hu
      rw [run_snoc, hw''] at hw'
      have := h s' hw'
      omega
  · rcases via_plus vu with z | ⟨w'', rfl, hw''⟩
    · exact T.full s' u hu z u40
    · exfalso
      rw [run_snoc, hw''] at hu
      have := h s' hu
      omega
theorem TInv.congr {p : Pas} {Dn Dn' : Sd → Mv → Prop} {get : Nat → Sd → Option (List Mv)} (T : TInv p Dn get) (h : ∀ w s, run p (st0 p) w = some s → s.1 ≤ 40 → (Via p Dn w ↔ Via p Dn' w)) : TInv p Dn' get := by
  refine ⟨fun t s u t40 hu => ?_, fun t s u t40 hu w' hw' vw' => ?_, fun s u hu vu u40 => ?_⟩
  · obtain ⟨a1, a2, a3⟩ := T.sound _ _ _ t40 hu
    exact ⟨a1, a2, (h u s a2 (by omega)).mp a3⟩
  · obtain ⟨a1, a2, a3⟩ := T.sound _ _ _ t40 hu
    exact T.least _ _ _ t40 hu w' hw' ((h w' s hw' (by omega)).mpr vw')
  · exact T.full s u hu ((h u s hu u40).mpr vu) u40
/-- minutes before m are done -/
noncomputable def Bf (m : Nat) : Sd → Mv → Prop := fun s _ => s.1 < m
theorem via_bf {p : Pas} (g : Good p) {m : Nat} {Dn : Sd → Mv → Prop} (hD : ∀ s x, s.1 < m → Dn s x) {w : List Mv} {s : Sd} (h : run p (st0 p) w = some s) (hs : s.1 ≤ m) : Via p Dn w := by
  rcases List.eq_nil_or_concat w with e | ⟨w', x, e⟩
  · exact .inl e
  · rw [List.concat_eq_append] at e
    subst e
    rw [run_snoc] at h
    cases h1 : run p (st0 p) w' with
    | none => rw [h1] at h; cases h
    | some s1 =>
      rw [h1] at h
      have := to_min g (show to p s1 x = some s from h)
      exact .inr ⟨w', x, s1, rfl, h1, hD _ _ (by omega)⟩
/-- a minute is done: every stand of it with every move -/
theorem TInv.minute {p : Pas} (g : Good p) {m : Nat} {Dn : Sd → Mv → Prop} {get : Nat → Sd → Option (List Mv)} (T : TInv p Dn get) (h1 : ∀ s x, s.1 < m → Dn s x) (h2 : ∀ s x w s2, s.1 = m → run p (st0 p) w = some s → to p s x = some s2 → Dn s x)
    (h3 : ∀ s x, Dn s x → s.1 < m + 1) : TInv p (Bf (m + 1)) get := by
  refine T.congr fun w s hw _ => ⟨?_, ?_⟩
  · exact fun h => h.imp id fun ⟨w', x, s', e1, e2, e3⟩ => ⟨w', x, s', e1, e2, h3 _ _ e3⟩
  · rintro (h | ⟨w', x, s', rfl, e2, e3⟩)
    · exact .inl h
    · refine .inr ⟨w', x, s', rfl, e2, ?_⟩
      rw [run_snoc, e2] at hw
      have e3 : s'.1 < m + 1 := e3
      by_cases hm : s'.1 = m
      · exact h2 s' x w' s hm e2 hw
      · exact h1 _ _ (by omega)
theorem TInv.start (p : Pas) : TInv p (Bf 0) fun t s => if t = 0 ∧ s = st0 p then some [] else none := by
  have vn : ∀ {w}, Via p (Bf 0) w → w = [] := fun h => by
    rcases h with h | ⟨w', x, s, _, _, h⟩
    · exact h
    · exact absurd h (Nat.not_lt_zero _)
  refine ⟨fun t s u _ hu => ?_, fun t s u _ hu w' hw' vw' => ?_, fun s u hu vu _ => ?_⟩
  · by_cases h : t = 0 ∧ s = st0 p
    · rw [if_pos h] at hu
      have hu := Option.some.inj hu
      subst hu
      rw [h.2, h.1]
      exact ⟨rfl, rfl, .inl rfl⟩
    · rw [if_neg h] at hu; cases hu
  · by_cases h : t = 0 ∧ s = st0 p
    · rw [if_pos h] at hu
      have hu := Option.some.inj hu
      subst hu
      rw [vn vw']
      rfl
    · rw [if_neg h] at hu; cases hu
  · have e := vn vu
    subst e
    have hu := Option.some.inj hu
    subst hu
    exact ⟨[], if_pos ⟨rfl, rfl⟩⟩
/-- what soonest answers, by the specification -/
noncomputable def dueS (p : Pas) : List Int := out (Uw32.step p .soonest).2
theorem out_some (v : Nat) (l : List Nat) : out ⟨(v : Int), l⟩ = (v : Int) :: intsN l := rfl
/-- found at minute m: the least of the ways to stands at the mark -/
theorem found {p : Pas} (g : Good p) {m : Nat} (h40 : m ≤ 40) {get : Nat → Sd → Option (List Mv)} (T : TInv p (Bf m) get) (none : ∀ w s, run p (st0 p) w = some s → s.1 < m → s.2.1 ≠ p.water.mark)
    {s : Sd} {w : List Mv} (hs : s.2.1 = p.water.mark) (hw : get m s = some w) (hl : ∀ s' w', s'.2.1 = p.water.mark → get m s' = some w' → HT.lexLt (fl w') (fl w) = false) : dueS p = (m : Int) :: fl w := by
  obtain ⟨e1, r1, _⟩ := T.sound _ _ _ h40 hw
  obtain ⟨v, hv, hle⟩ := Vs_le g (val0 g) r1 hs (by omega)
  obtain ⟨v40, ⟨s', r2, m2, e2⟩, least⟩ := way_least g 40 (st0 p) v (val0 g) (Nat.zero_le _) (Nat.le_refl _) hv
  have hvm : v = m := by
    rcases Nat.lt_or_ge v m with z | z
    · exact absurd m2 (none _ _ r2 (by omega))
    · omega
  subst hvm
  have f1 := least w s r1 hs e1
  obtain ⟨u, hu⟩ := T.full s' _ r2 (via_bf g (fun _ _ z => z) r2 (by omega)) (by omega)
  rw [e2] at hu
  have f2 := T.least _ _ _ h40 hu _ r2 (via_bf g (fun _ _ z => z) r2 (by omega))
  have f3 := Pa.lex_trans (hl s' u m2 hu) f2
  have f4 := lex_anti f1 f3
  unfold dueS
  rw [step_soonest]
  have hv : V p 0 p.water.boat 0 p.bare = some v := hv
  simp only [hv]
  rw [out_some]
  rw [f4]
  rfl
/-- not found at all -/
theorem lost {p : Pas} (g : Good p) (none : ∀ w s, run p (st0 p) w = some s → s.1 ≤ 40 → s.2.1 ≠ p.water.mark) : dueS p = [-6] := by
  unfold dueS
  rw [step_soonest]
  cases hv : V p 0 p.water.boat 0 p.bare with
  | none => rfl
  | some v =>
    obtain ⟨v40, ⟨s', r2, m2, e2⟩, _⟩ := way_least g 40 (st0 p) v (val0 g) (Nat.zero_le _) (Nat.le_refl _) hv
    exact absurd m2 (none _ _ r2 (by omega))
/-- no stand of the minute is at the mark -/
theorem past {p : Pas} (g : Good p) {m : Nat} (h40 : m ≤ 40) {get : Nat → Sd → Option (List Mv)} (T : TInv p (Bf m) get) (none : ∀ w s, run p (st0 p) w = some s → s.1 < m → s.2.1 ≠ p.water.mark)
    (h : ∀ s w, get m s = some w → s.2.1 ≠ p.water.mark) : ∀ w s, run p (st0 p) w = some s → s.1 < m + 1 → s.2.1 ≠ p.water.mark := fun w s hw hs => by
  by_cases e : s.1 = m
  · obtain ⟨u, hu⟩ := T.full s w hw (via_bf g (fun _ _ z => z) hw (by omega)) (by omega)
    rw [e] at hu
    exact h s u hu
  · exact none w s hw (by omega)
end Pm

end
section
set_option Elab.async false
set_option linter.all false
set_option maxRecDepth 100000
set_option maxHeartbeats 2000000
namespace Pa
open PySem PySem.Spec PyProof.Rows L2
open PySem.W (Codec)
theorem bt_len : bootBuiltins "len" = some (.builtin "len") := PySem.boot_len
theorem bt_list : bootBuiltins "list" = some (.type "list") := PyProof.Rows.boot_list
theorem bt_tuple : bootBuiltins "tuple" = some (.type "tuple") := PyProof.Rows.boot_tuple
theorem bt_max : bootBuiltins "max" = some (.builtin "max") := PyProof.Rows.boot_max
theorem bt_min : bootBuiltins "min" = some (.builtin "min") := PyProof.Rows.boot_min
theorem bt_sorted : bootBuiltins "sorted" = some (.builtin "sorted") := PyProof.Rows.boot_sorted
theorem bt_sum : bootBuiltins "sum" = some (.builtin "sum") := PyProof.Rows.boot_sum
noncomputable def top (i : Nat) : Stmt := PySem.Challenge.pw_sailpassage_s01_answers.main.body.getD i (.Pass ⟨0, 0, 0, 0⟩)
noncomputable abbrev s_is_extent : Stmt := top 39
noncomputable abbrev s_is_row : Stmt := top 40
noncomputable abbrev s_told_at : Stmt := top 41
noncomputable abbrev s_point_of : Stmt := top 42
noncomputable abbrev s_side_of : Stmt := top 43
noncomputable abbrev s_stands : Stmt := top 44
noncomputable abbrev s_keep_earlier : Stmt := top 45
noncomputable abbrev s_Step_init : Stmt := inClass (top 46) 0
noncomputable abbrev s_Step_turns : Stmt := inClass (top 46) 1
noncomputable abbrev s_Step_side_behind : Stmt := inClass (top 46) 2
noncomputable abbrev s_Passage_init : Stmt := inClass (top 47) 0
noncomputable abbrev s_Passage_lay : Stmt := inClass (top 47) 1
noncomputable abbrev s_Passage_begins : Stmt := inClass (top 47) 2
noncomputable abbrev s_Passage_shoal : Stmt := inClass (top 47) 3
noncomputable abbrev s_Passage_winds : Stmt := inClass (top 47) 4
noncomputable abbrev s_Passage_strong : Stmt := inClass (top 47) 5
noncomputable abbrev s_Passage_boat : Stmt := inClass (top 47) 6
noncomputable abbrev s_Passage_places : Stmt := inClass (top 47) 7
noncomputable abbrev s_Passage_sail : Stmt := inClass (top 47) 8
noncomputable abbrev s_Passage_change : Stmt := inClass (top 47) 9
noncomputable abbrev s_Passage_soonest : Stmt := inClass (top 47) 10
noncomputable abbrev s_Passage_check : Stmt := inClass (top 47) 11
noncomputable abbrev s_Passage_has_cell : Stmt := inClass (top 47) 12
noncomputable abbrev s_Passage_is_way : Stmt := inClass (top 47) 13
noncomputable abbrev s_Passage_first_stand : Stmt := inClass (top 47) 14
noncomputable abbrev s_Passage_has_room : Stmt := inClass (top 47) 15
noncomputable abbrev s_Passage_cell_behind : Stmt := inClass (top 47) 16
noncomputable abbrev s_Passage_step_at : Stmt := inClass (top 47) 17
noncomputable abbrev s_Passage_steps_at : Stmt := inClass (top 47) 18
noncomputable abbrev s_Passage_stand_behind : Stmt := inClass (top 47) 19
noncomputable abbrev s_Passage_lengthen : Stmt := inClass (top 47) 20
noncomputable abbrev s_has_row : Stmt := top 48
noncomputable abbrev s_numbers_start : Stmt := top 49
noncomputable abbrev s_numbers_end : Stmt := top 50
noncomputable abbrev s_answer_to : Stmt := top 51
noncomputable abbrev s_answers_about : Stmt := top 52
noncomputable abbrev s_answers : Stmt := top 53
theorem sc_is_extent : FnScope ["cells"] ["cells"] (defScope s_is_extent) := ⟨rfl, rfl, rfl, by decide +kernel, rfl, by decide +kernel, by decide +kernel⟩
theorem sc_is_row : FnScope ["row", "greatest"] ["row", "greatest"] (defScope s_is_row) := ⟨rfl, rfl, rfl, by decide +kernel, rfl, by decide +kernel, by decide +kernel⟩
theorem sc_told_at : FnScope ["row", "minute"] ["row", "minute"] (defScope s_told_at) := ⟨rfl, rfl, rfl, by decide +kernel, rfl, by decide +kernel, by decide +kernel⟩
theorem sc_point_of : FnScope ["eighths"] ["eighths"] (defScope s_point_of) := ⟨rfl, rfl, rfl, by decide +kernel, rfl, by decide +kernel, by decide +kernel⟩
theorem sc_side_of : FnScope ["eighths"] ["eighths"] (defScope s_side_of) := ⟨rfl, rfl, rfl, by decide +kernel, rfl, by decide +kernel, by decide +kernel⟩
theorem sc_stands : FnScope ["sail", "strength"] ["sail", "strength"] (defScope s_stands) := ⟨rfl, rfl, rfl, by decide +kernel, rfl, by decide +kernel, by decide +kernel⟩
theorem sc_keep_earlier : FnScope ["ways", "stand", "way"] ["ways", "stand", "way"] (defScope s_keep_earlier) := ⟨rfl, rfl, rfl, by decide +kernel, rfl, by decide +kernel, by decide +kernel⟩
theorem sc_Step_init : FnScope ["self", "heading", "with_sail", "side", "minutes"] ["self", "heading", "with_sail", "side", "minutes"] (defScope s_Step_init) := ⟨rfl, rfl, rfl, by decide +kernel, rfl, by decide +kernel, by decide +kernel⟩
theorem sc_Step_turns : FnScope ["self", "side"] ["self", "side"] (defScope s_Step_turns) := ⟨rfl, rfl, rfl, by decide +kernel, rfl, by decide +kernel, by decide +kernel⟩
theorem sc_Step_side_behind : FnScope ["self", "side"] ["self", "side"] (defScope s_Step_side_behind) := ⟨rfl, rfl, rfl, by decide +kernel, rfl, by decide +kernel, by decide +kernel⟩
theorem sc_Passage_init : FnScope ["self"] ["self"] (defScope s_Passage_init) := ⟨rfl, rfl, rfl, by decide +kernel, rfl, by decide +kernel, by decide +kernel⟩
theorem sc_Passage_lay : FnScope ["self", "wide", "high"] ["self", "wide", "high"] (defScope s_Passage_lay) := ⟨rfl, rfl, rfl, by decide +kernel, rfl, by decide +kernel, by decide +kernel⟩
theorem sc_Passage_begins : FnScope ["self", "wide", "high"] ["self", "wide", "high"] (defScope s_Passage_begins) := ⟨rfl, rfl, rfl, by decide +kernel, rfl, by decide +kernel, by decide +kernel⟩
theorem sc_Passage_shoal : FnScope ["self", "cell"] ["self", "cell"] (defScope s_Passage_shoal) := ⟨rfl, rfl, rfl, by decide +kernel, rfl, by decide +kernel, by decide +kernel⟩
theorem sc_Passage_winds : FnScope ["self", "row"] ["self", "row"] (defScope s_Passage_winds) := ⟨rfl, rfl, rfl, by decide +kernel, rfl, by decide +kernel, by decide +kernel⟩
theorem sc_Passage_strong : FnScope ["self", "row"] ["self", "row"] (defScope s_Passage_strong) := ⟨rfl, rfl, rfl, by decide +kernel, rfl, by decide +kernel, by decide +kernel⟩
theorem sc_Passage_boat : FnScope ["self", "steps", "turn"] ["self", "steps", "turn"] (defScope s_Passage_boat) := ⟨rfl, rfl, rfl, by decide +kernel, rfl, by decide +kernel, by decide +kernel⟩
theorem sc_Passage_places : FnScope ["self", "boat", "mark"] ["self", "boat", "mark"] (defScope s_Passage_places) := ⟨rfl, rfl, rfl, by decide +kernel, rfl, by decide +kernel, by decide +kernel⟩
theorem sc_Passage_sail : FnScope ["self", "least", "greatest", "slow"] ["self", "least", "greatest", "slow"] (defScope s_Passage_sail) := ⟨rfl, rfl, rfl, by decide +kernel, rfl, by decide +kernel, by decide +kernel⟩
theorem sc_Passage_change : FnScope ["self", "minutes"] ["self", "minutes"] (defScope s_Passage_change) := ⟨rfl, rfl, rfl, by decide +kernel, rfl, by decide +kernel, by decide +kernel⟩
theorem sc_Passage_soonest : FnScope ["self", "ways", "minute", "ended", "stand", "way"] ["self"] (defScope s_Passage_soonest) := ⟨rfl, rfl, rfl, by decide +kernel, rfl, by decide +kernel, by decide +kernel⟩
theorem sc_Passage_check : FnScope ["self", "way", "stand", "number", "step"] ["self", "way"] (defScope s_Passage_check) := ⟨rfl, rfl, rfl, by decide +kernel, rfl, by decide +kernel, by decide +kernel⟩
theorem sc_Passage_has_cell : FnScope ["self", "cell"] ["self", "cell"] (defScope s_Passage_has_cell) := ⟨rfl, rfl, rfl, by decide +kernel, rfl, by decide +kernel, by decide +kernel⟩
theorem sc_Passage_is_way : FnScope ["self", "way"] ["self", "way"] (defScope s_Passage_is_way) := ⟨rfl, rfl, rfl, by decide +kernel, rfl, by decide +kernel, by decide +kernel⟩
theorem sc_Passage_first_stand : FnScope ["self"] ["self"] (defScope s_Passage_first_stand) := ⟨rfl, rfl, rfl, by decide +kernel, rfl, by decide +kernel, by decide +kernel⟩
theorem sc_Passage_has_room : FnScope ["self", "cell", "heading", "column", "line"] ["self", "cell", "heading"] (defScope s_Passage_has_room) := ⟨rfl, rfl, rfl, by decide +kernel, rfl, by decide +kernel, by decide +kernel⟩
theorem sc_Passage_cell_behind : FnScope ["self", "cell", "heading"] ["self", "cell", "heading"] (defScope s_Passage_cell_behind) := ⟨rfl, rfl, rfl, by decide +kernel, rfl, by decide +kernel, by decide +kernel⟩
theorem sc_Passage_step_at : FnScope ["self", "minute", "heading", "number", "eighths", "sail", "minutes"] ["self", "minute", "heading", "number"] (defScope s_Passage_step_at) := ⟨rfl, rfl, rfl, by decide +kernel, rfl, by decide +kernel, by decide +kernel⟩
theorem sc_Passage_steps_at : FnScope ["self", "minute", "steps", "heading", "number", "step"] ["self", "minute"] (defScope s_Passage_steps_at) := ⟨rfl, rfl, rfl, by decide +kernel, rfl, by decide +kernel, by decide +kernel⟩
theorem sc_Passage_stand_behind : FnScope ["self", "stand", "step", "minute", "cell"] ["self", "stand", "step"] (defScope s_Passage_stand_behind) := ⟨rfl, rfl, rfl, by decide +kernel, rfl, by decide +kernel, by decide +kernel⟩
theorem sc_Passage_lengthen : FnScope ["self", "ways", "minute", "steps", "stand", "way", "step", "later"] ["self", "ways", "minute"] (defScope s_Passage_lengthen) := ⟨rfl, rfl, rfl, by decide +kernel, rfl, by decide +kernel, by decide +kernel⟩
theorem sc_has_row : FnScope ["call"] ["call"] (defScope s_has_row) := ⟨rfl, rfl, rfl, by decide +kernel, rfl, by decide +kernel, by decide +kernel⟩
theorem sc_numbers_start : FnScope ["calls", "place"] ["calls", "place"] (defScope s_numbers_start) := ⟨rfl, rfl, rfl, by decide +kernel, rfl, by decide +kernel, by decide +kernel⟩
theorem sc_numbers_end : FnScope ["calls", "place", "start"] ["calls", "place"] (defScope s_numbers_end) := ⟨rfl, rfl, rfl, by decide +kernel, rfl, by decide +kernel, by decide +kernel⟩
theorem sc_answer_to : FnScope ["passage", "call", "numbers"] ["passage", "call", "numbers"] (defScope s_answer_to) := ⟨rfl, rfl, rfl, by decide +kernel, rfl, by decide +kernel, by decide +kernel⟩
theorem sc_answers_about : FnScope ["passage", "calls", "given", "place", "end", "numbers", "answered"] ["passage", "calls"] (defScope s_answers_about) := ⟨rfl, rfl, rfl, by decide +kernel, rfl, by decide +kernel, by decide +kernel⟩
theorem sc_answers : FnScope ["calls"] ["calls"] (defScope s_answers) := ⟨rfl, rfl, rfl, by decide +kernel, rfl, by decide +kernel, by decide +kernel⟩
set_option genInjectivity false in
set_option genSizeOfSpec false in
/-- the addresses -/
structure Adr where
  C_Step : Addr
  C_Passage : Addr
  f_is_extent : Addr
  d_is_extent : FuncData
  f_is_row : Addr
  d_is_row : FuncData
  f_told_at : Addr
  d_told_at : FuncData
  f_point_of : Addr
  d_point_of : FuncData
  f_side_of : Addr
  d_side_of : FuncData
  f_stands : Addr
  d_stands : FuncData
  f_keep_earlier : Addr
  d_keep_earlier : FuncData
  f_Step_init : Addr
  d_Step_init : FuncData
  f_Step_turns : Addr
  d_Step_turns : FuncData
  f_Step_side_behind : Addr
  d_Step_side_behind : FuncData
  f_Passage_init : Addr
  d_Passage_init : FuncData
  f_Passage_lay : Addr
  d_Passage_lay : FuncData
  f_Passage_begins : Addr
  d_Passage_begins : FuncData
  f_Passage_shoal : Addr
  d_Passage_shoal : FuncData
  f_Passage_winds : Addr
  d_Passage_winds : FuncData
  f_Passage_strong : Addr
  d_Passage_strong : FuncData
  f_Passage_boat : Addr
  d_Passage_boat : FuncData
  f_Passage_places : Addr
  d_Passage_places : FuncData
  f_Passage_sail : Addr
  d_Passage_sail : FuncData
  f_Passage_change : Addr
  d_Passage_change : FuncData
  f_Passage_soonest : Addr
  d_Passage_soonest : FuncData
  f_Passage_check : Addr
  d_Passage_check : FuncData
  f_Passage_has_cell : Addr
  d_Passage_has_cell : FuncData
  f_Passage_is_way : Addr
  d_Passage_is_way : FuncData
  f_Passage_first_stand : Addr
  d_Passage_first_stand : FuncData
  f_Passage_has_room : Addr
  d_Passage_has_room : FuncData
  f_Passage_cell_behind : Addr
  d_Passage_cell_behind : FuncData
  f_Passage_step_at : Addr
  d_Passage_step_at : FuncData
  f_Passage_steps_at : Addr
  d_Passage_steps_at : FuncData
  f_Passage_stand_behind : Addr
  d_Passage_stand_behind : FuncData
  f_Passage_lengthen : Addr
  d_Passage_lengthen : FuncData
  f_has_row : Addr
  d_has_row : FuncData
  f_numbers_start : Addr
  d_numbers_start : FuncData
  f_numbers_end : Addr
  d_numbers_end : FuncData
  f_answer_to : Addr
  d_answer_to : FuncData
  f_answers_about : Addr
  d_answers_about : FuncData
  f_answers : Addr
  d_answers : FuncData
  a_NUMBERS : Addr
  a_RIGHTWARD : Addr
  a_DOWNWARD : Addr
noncomputable def Gc (mg : Str → Option Value) (x : Str) (v : V) : Prop := ∃ u, mg x = some u ∧ RelV v u
theorem pe_gc {X : Cx} {x : Str} {v : V} {pos : Pos} (hg : Gl X x) (h : Gc X.mg x v) (hd : (x == ("__debug__" : Str)) = false := by decide) : PE X (.Name x pos) (tC v) := by
  obtain ⟨u, h1, h2⟩ := h
  exact pe_glob hg h1 h2 hd
structure Txt (K : PySem.W.Frag) (mg : Str → Option Value) (D : Adr) : Prop where
  cl_Step : Cls K D.C_Step
  mk_Step : Mk K D.C_Step D.f_Step_init
  g_Step : mg "Step" = some (.ref D.C_Step)
  cl_Passage : Cls K D.C_Passage
  mk_Passage : Mk K D.C_Passage D.f_Passage_init
  g_Passage : mg "Passage" = some (.ref D.C_Passage)
  n_Step_heading : NoAttr K D.C_Step "heading"
  n_Step_with_sail : NoAttr K D.C_Step "with_sail"
  n_Step_side : NoAttr K D.C_Step "side"
  n_Step_minutes : NoAttr K D.C_Step "minutes"
  n_Passage_wide : NoAttr K D.C_Passage "wide"
  n_Passage_high : NoAttr K D.C_Passage "high"
  n_Passage_shoals : NoAttr K D.C_Passage "shoals"
  n_Passage_wind_row : NoAttr K D.C_Passage "wind_row"
  n_Passage_strength_row : NoAttr K D.C_Passage "strength_row"
  n_Passage_step_minutes : NoAttr K D.C_Passage "step_minutes"
  n_Passage_turn_minutes : NoAttr K D.C_Passage "turn_minutes"
  n_Passage_change_minutes : NoAttr K D.C_Passage "change_minutes"
  n_Passage_sails : NoAttr K D.C_Passage "sails"
  n_Passage_boat_cell : NoAttr K D.C_Passage "boat_cell"
  n_Passage_mark_cell : NoAttr K D.C_Passage "mark_cell"
  F_is_extent : Fun K "is_extent" "is_extent" s_is_extent D.f_is_extent D.d_is_extent
  b_is_extent : Binds K D.d_is_extent ["cells"] []
  g_is_extent : mg "is_extent" = some (.ref D.f_is_extent)
  F_is_row : Fun K "is_row" "is_row" s_is_row D.f_is_row D.d_is_row
  b_is_row : Binds K D.d_is_row ["row", "greatest"] []
  g_is_row : mg "is_row" = some (.ref D.f_is_row)
  F_told_at : Fun K "told_at" "told_at" s_told_at D.f_told_at D.d_told_at
  b_told_at : Binds K D.d_told_at ["row", "minute"] []
  g_told_at : mg "told_at" = some (.ref D.f_told_at)
  F_point_of : Fun K "point_of" "point_of" s_point_of D.f_point_of D.d_point_of
  b_point_of : Binds K D.d_point_of ["eighths"] []
  g_point_of : mg "point_of" = some (.ref D.f_point_of)
  F_side_of : Fun K "side_of" "side_of" s_side_of D.f_side_of D.d_side_of
  b_side_of : Binds K D.d_side_of ["eighths"] []
  g_side_of : mg "side_of" = some (.ref D.f_side_of)
  F_stands : Fun K "stands" "stands" s_stands D.f_stands D.d_stands
  b_stands : Binds K D.d_stands ["sail", "strength"] []
  g_stands : mg "stands" = some (.ref D.f_stands)
  F_keep_earlier : Fun K "keep_earlier" "keep_earlier" s_keep_earlier D.f_keep_earlier D.d_keep_earlier
  b_keep_earlier : Binds K D.d_keep_earlier ["ways", "stand", "way"] []
  g_keep_earlier : mg "keep_earlier" = some (.ref D.f_keep_earlier)
  F_Step_init : Fun K "__init__" "Step.__init__" s_Step_init D.f_Step_init D.d_Step_init
  b_Step_init : Binds K D.d_Step_init ["self", "heading", "with_sail", "side", "minutes"] []
  m_Step_init : Meth K D.C_Step "__init__" D.f_Step_init
  F_Step_turns : Fun K "turns" "Step.turns" s_Step_turns D.f_Step_turns D.d_Step_turns
  b_Step_turns : Binds K D.d_Step_turns ["self", "side"] []
  m_Step_turns : Meth K D.C_Step "turns" D.f_Step_turns
  F_Step_side_behind : Fun K "side_behind" "Step.side_behind" s_Step_side_behind D.f_Step_side_behind D.d_Step_side_behind
  b_Step_side_behind : Binds K D.d_Step_side_behind ["self", "side"] []
  m_Step_side_behind : Meth K D.C_Step "side_behind" D.f_Step_side_behind
  F_Passage_init : Fun K "__init__" "Passage.__init__" s_Passage_init D.f_Passage_init D.d_Passage_init
  b_Passage_init : Binds K D.d_Passage_init ["self"] []
  m_Passage_init : Meth K D.C_Passage "__init__" D.f_Passage_init
  F_Passage_lay : Fun K "lay" "Passage.lay" s_Passage_lay D.f_Passage_lay D.d_Passage_lay
  b_Passage_lay : Binds K D.d_Passage_lay ["self", "wide", "high"] []
  m_Passage_lay : Meth K D.C_Passage "lay" D.f_Passage_lay
  F_Passage_begins : Fun K "begins" "Passage.begins" s_Passage_begins D.f_Passage_begins D.d_Passage_begins
  b_Passage_begins : Binds K D.d_Passage_begins ["self", "wide", "high"] []
  m_Passage_begins : Meth K D.C_Passage "begins" D.f_Passage_begins
  F_Passage_shoal : Fun K "shoal" "Passage.shoal" s_Passage_shoal D.f_Passage_shoal D.d_Passage_shoal
  b_Passage_shoal : Binds K D.d_Passage_shoal ["self", "cell"] []
  m_Passage_shoal : Meth K D.C_Passage "shoal" D.f_Passage_shoal
  F_Passage_winds : Fun K "winds" "Passage.winds" s_Passage_winds D.f_Passage_winds D.d_Passage_winds
  b_Passage_winds : Binds K D.d_Passage_winds ["self", "row"] []
  m_Passage_winds : Meth K D.C_Passage "winds" D.f_Passage_winds
  F_Passage_strong : Fun K "strong" "Passage.strong" s_Passage_strong D.f_Passage_strong D.d_Passage_strong
  b_Passage_strong : Binds K D.d_Passage_strong ["self", "row"] []
  m_Passage_strong : Meth K D.C_Passage "strong" D.f_Passage_strong
  F_Passage_boat : Fun K "boat" "Passage.boat" s_Passage_boat D.f_Passage_boat D.d_Passage_boat
  b_Passage_boat : Binds K D.d_Passage_boat ["self", "steps", "turn"] []
  m_Passage_boat : Meth K D.C_Passage "boat" D.f_Passage_boat
  F_Passage_places : Fun K "places" "Passage.places" s_Passage_places D.f_Passage_places D.d_Passage_places
  b_Passage_places : Binds K D.d_Passage_places ["self", "boat", "mark"] []
  m_Passage_places : Meth K D.C_Passage "places" D.f_Passage_places
  F_Passage_sail : Fun K "sail" "Passage.sail" s_Passage_sail D.f_Passage_sail D.d_Passage_sail
  b_Passage_sail : Binds K D.d_Passage_sail ["self", "least", "greatest", "slow"] []
  m_Passage_sail : Meth K D.C_Passage "sail" D.f_Passage_sail
  F_Passage_change : Fun K "change" "Passage.change" s_Passage_change D.f_Passage_change D.d_Passage_change
  b_Passage_change : Binds K D.d_Passage_change ["self", "minutes"] []
  m_Passage_change : Meth K D.C_Passage "change" D.f_Passage_change
  F_Passage_soonest : Fun K "soonest" "Passage.soonest" s_Passage_soonest D.f_Passage_soonest D.d_Passage_soonest
  b_Passage_soonest : Binds K D.d_Passage_soonest ["self"] []
  m_Passage_soonest : Meth K D.C_Passage "soonest" D.f_Passage_soonest
  F_Passage_check : Fun K "check" "Passage.check" s_Passage_check D.f_Passage_check D.d_Passage_check
  b_Passage_check : Binds K D.d_Passage_check ["self", "way"] []
  m_Passage_check : Meth K D.C_Passage "check" D.f_Passage_check
  F_Passage_has_cell : Fun K "has_cell" "Passage.has_cell" s_Passage_has_cell D.f_Passage_has_cell D.d_Passage_has_cell
  b_Passage_has_cell : Binds K D.d_Passage_has_cell ["self", "cell"] []
  m_Passage_has_cell : Meth K D.C_Passage "has_cell" D.f_Passage_has_cell
  F_Passage_is_way : Fun K "is_way" "Passage.is_way" s_Passage_is_way D.f_Passage_is_way D.d_Passage_is_way
  b_Passage_is_way : Binds K D.d_Passage_is_way ["self", "way"] []
  m_Passage_is_way : Meth K D.C_Passage "is_way" D.f_Passage_is_way
  F_Passage_first_stand : Fun K "first_stand" "Passage.first_stand" s_Passage_first_stand D.f_Passage_first_stand D.d_Passage_first_stand
  b_Passage_first_stand : Binds K D.d_Passage_first_stand ["self"] []
  m_Passage_first_stand : Meth K D.C_Passage "first_stand" D.f_Passage_first_stand
  F_Passage_has_room : Fun K "has_room" "Passage.has_room" s_Passage_has_room D.f_Passage_has_room D.d_Passage_has_room
  b_Passage_has_room : Binds K D.d_Passage_has_room ["self", "cell", "heading"] []
  m_Passage_has_room : Meth K D.C_Passage "has_room" D.f_Passage_has_room
  F_Passage_cell_behind : Fun K "cell_behind" "Passage.cell_behind" s_Passage_cell_behind D.f_Passage_cell_behind D.d_Passage_cell_behind
  b_Passage_cell_behind : Binds K D.d_Passage_cell_behind ["self", "cell", "heading"] []
  m_Passage_cell_behind : Meth K D.C_Passage "cell_behind" D.f_Passage_cell_behind
  F_Passage_step_at : Fun K "step_at" "Passage.step_at" s_Passage_step_at D.f_Passage_step_at D.d_Passage_step_at
  b_Passage_step_at : Binds K D.d_Passage_step_at ["self", "minute", "heading", "number"] []
  m_Passage_step_at : Meth K D.C_Passage "step_at" D.f_Passage_step_at
  F_Passage_steps_at : Fun K "steps_at" "Passage.steps_at" s_Passage_steps_at D.f_Passage_steps_at D.d_Passage_steps_at
  b_Passage_steps_at : Binds K D.d_Passage_steps_at ["self", "minute"] []
  m_Passage_steps_at : Meth K D.C_Passage "steps_at" D.f_Passage_steps_at
  F_Passage_stand_behind : Fun K "stand_behind" "Passage.stand_behind" s_Passage_stand_behind D.f_Passage_stand_behind D.d_Passage_stand_behind
  b_Passage_stand_behind : Binds K D.d_Passage_stand_behind ["self", "stand", "step"] []
  m_Passage_stand_behind : Meth K D.C_Passage "stand_behind" D.f_Passage_stand_behind
  F_Passage_lengthen : Fun K "lengthen" "Passage.lengthen" s_Passage_lengthen D.f_Passage_lengthen D.d_Passage_lengthen
  b_Passage_lengthen : Binds K D.d_Passage_lengthen ["self", "ways", "minute"] []
  m_Passage_lengthen : Meth K D.C_Passage "lengthen" D.f_Passage_lengthen
  F_has_row : Fun K "has_row" "has_row" s_has_row D.f_has_row D.d_has_row
  b_has_row : Binds K D.d_has_row ["call"] []
  g_has_row : mg "has_row" = some (.ref D.f_has_row)
  F_numbers_start : Fun K "numbers_start" "numbers_start" s_numbers_start D.f_numbers_start D.d_numbers_start
  b_numbers_start : Binds K D.d_numbers_start ["calls", "place"] []
  g_numbers_start : mg "numbers_start" = some (.ref D.f_numbers_start)
  F_numbers_end : Fun K "numbers_end" "numbers_end" s_numbers_end D.f_numbers_end D.d_numbers_end
  b_numbers_end : Binds K D.d_numbers_end ["calls", "place"] []
  g_numbers_end : mg "numbers_end" = some (.ref D.f_numbers_end)
  F_answer_to : Fun K "answer_to" "answer_to" s_answer_to D.f_answer_to D.d_answer_to
  b_answer_to : Binds K D.d_answer_to ["passage", "call", "numbers"] []
  g_answer_to : mg "answer_to" = some (.ref D.f_answer_to)
  F_answers_about : Fun K "answers_about" "answers_about" s_answers_about D.f_answers_about D.d_answers_about
  b_answers_about : Binds K D.d_answers_about ["passage", "calls"] []
  g_answers_about : mg "answers_about" = some (.ref D.f_answers_about)
  F_answers : Fun K "answers" "answers" s_answers D.f_answers D.d_answers
  b_answers : Binds K D.d_answers ["calls"] []
  g_answers : mg "answers" = some (.ref D.f_answers)
  c_BEGINS : Gc mg "BEGINS" (V.int 0)
  c_SHOAL : Gc mg "SHOAL" (V.int 1)
  c_WINDS : Gc mg "WINDS" (V.int 2)
  c_STRONG : Gc mg "STRONG" (V.int 3)
  c_BOAT : Gc mg "BOAT" (V.int 4)
  c_PLACES : Gc mg "PLACES" (V.int 5)
  c_SAIL : Gc mg "SAIL" (V.int 6)
  c_CHANGE : Gc mg "CHANGE" (V.int 7)
  c_SOONEST : Gc mg "SOONEST" (V.int 8)
  c_CHECK : Gc mg "CHECK" (V.int 9)
  c_NUMBERS : Gc mg "NUMBERS" (.ref D.a_NUMBERS)
  t_NUMBERS : ∀ H : Hp, SqT K H D.a_NUMBERS [V.int 2, V.int 1, V.int 0, V.int 0, V.int 5, V.int 2, V.int 3, V.int 1, V.int 0, V.int 0]
  c_OUT_OF_BOUNDS : Gc mg "OUT_OF_BOUNDS" (V.int (-1))
  c_NO_SUCH_CELL : Gc mg "NO_SUCH_CELL" (V.int (-2))
  c_CELL_TAKEN : Gc mg "CELL_TAKEN" (V.int (-3))
  c_SHOAL_ALREADY : Gc mg "SHOAL_ALREADY" (V.int (-4))
  c_SAILS_FULL : Gc mg "SAILS_FULL" (V.int (-5))
  c_CANNOT_BE_DONE : Gc mg "CANNOT_BE_DONE" (V.int (-6))
  c_LEAST_CELLS : Gc mg "LEAST_CELLS" (V.int 2)
  c_MOST_CELLS : Gc mg "MOST_CELLS" (V.int 4)
  c_LONGEST_ROW : Gc mg "LONGEST_ROW" (V.int 12)
  c_EIGHTHS : Gc mg "EIGHTHS" (V.int 8)
  c_GREATEST_STRENGTH : Gc mg "GREATEST_STRENGTH" (V.int 40)
  c_MOST_MINUTES : Gc mg "MOST_MINUTES" (V.int 9)
  c_MOST_SAILS : Gc mg "MOST_SAILS" (V.int 3)
  c_LAST_MINUTE : Gc mg "LAST_MINUTE" (V.int 40)
  c_MOST_STEPS : Gc mg "MOST_STEPS" (V.int 40)
  c_RIGHTWARD : Gc mg "RIGHTWARD" (.ref D.a_RIGHTWARD)
  t_RIGHTWARD : ∀ H : Hp, SqT K H D.a_RIGHTWARD [V.int 0, V.int 1, V.int 1, V.int 1, V.int 0, V.int (-1), V.int (-1), V.int (-1)]
  c_DOWNWARD : Gc mg "DOWNWARD" (.ref D.a_DOWNWARD)
  t_DOWNWARD : ∀ H : Hp, SqT K H D.a_DOWNWARD [V.int (-1), V.int (-1), V.int 0, V.int 1, V.int 1, V.int 1, V.int 0, V.int (-1)]
  c_NO_SIDE : Gc mg "NO_SIDE" (V.int 0)
  c_SIDE_ON : Gc mg "SIDE_ON" (V.int 1)
  c_SIDE_BACK : Gc mg "SIDE_BACK" (V.int 2)
  c_LEAST : Gc mg "LEAST" (V.int 0)
  c_GREATEST : Gc mg "GREATEST" (V.int 1)
  c_SLOW : Gc mg "SLOW" (V.int 2)
  c_MINUTE : Gc mg "MINUTE" (V.int 0)
  c_CELL : Gc mg "CELL" (V.int 1)
  c_SIDE : Gc mg "SIDE" (V.int 2)
  c_SAIL_SET : Gc mg "SAIL_SET" (V.int 3)
  z_len : mg "len" = none
  z_list : mg "list" = none
  z_max : mg "max" = none
  z_min : mg "min" = none
  z_range : mg "range" = none
end Pa

end
section
set_option Elab.async false
set_option linter.all false
set_option maxRecDepth 100000
set_option maxHeartbeats 2000000
namespace Pa
open PySem PySem.Spec PyProof.Rows L2
/-- the attributes of a passage, in the order in which they are laid -/
noncomputable def flds (w h : Int) (sh wr sr sm : Addr) (tn ch : Int) (sl : Addr) (b m : Int) : List (Str × V) :=
  [("wide", .int w), ("high", .int h), ("shoals", .ref sh), ("wind_row", .ref wr), ("strength_row", .ref sr), ("step_minutes", .ref sm), ("turn_minutes", .int tn), ("change_minutes", .int ch), ("sails", .ref sl), ("boat_cell", .int b), ("mark_cell", .int m)]
section
variable {w h tn ch b m z : Int} {sh wr sr sm sl q : Addr}
theorem lk_wide : (flds w h sh wr sr sm tn ch sl b m).lookup ("wide" : Str) = some (.int w) := by rfl
theorem lk_high : (flds w h sh wr sr sm tn ch sl b m).lookup ("high" : Str) = some (.int h) := by rfl
theorem lk_shoals : (flds w h sh wr sr sm tn ch sl b m).lookup ("shoals" : Str) = some (.ref sh) := by rfl
theorem lk_wind_row : (flds w h sh wr sr sm tn ch sl b m).lookup ("wind_row" : Str) = some (.ref wr) := by rfl
theorem lk_strength_row : (flds w h sh wr sr sm tn ch sl b m).lookup ("strength_row" : Str) = some (.ref sr) := by rfl
theorem lk_step_minutes : (flds w h sh wr sr sm tn ch sl b m).lookup ("step_minutes" : Str) = some (.ref sm) := by rfl
theorem lk_turn_minutes : (flds w h sh wr sr sm tn ch sl b m).lookup ("turn_minutes" : Str) = some (.int tn) := by rfl
theorem lk_change_minutes : (flds w h sh wr sr sm tn ch sl b m).lookup ("change_minutes" : Str) = some (.int ch) := by rfl
theorem lk_sails : (flds w h sh wr sr sm tn ch sl b m).lookup ("sails" : Str) = some (.ref sl) := by rfl
theorem lk_boat_cell : (flds w h sh wr sr sm tn ch sl b m).lookup ("boat_cell" : Str) = some (.int b) := by rfl
theorem lk_mark_cell : (flds w h sh wr sr sm tn ch sl b m).lookup ("mark_cell" : Str) = some (.int m) := by rfl
theorem pf_wind_row : putF "wind_row" (.ref q) (flds w h sh wr sr sm tn ch sl b m) = flds w h sh q sr sm tn ch sl b m := by rfl
theorem pf_strength_row : putF "strength_row" (.ref q) (flds w h sh wr sr sm tn ch sl b m) = flds w h sh wr q sm tn ch sl b m := by rfl
theorem pf_step_minutes : putF "step_minutes" (.ref q) (flds w h sh wr sr sm tn ch sl b m) = flds w h sh wr sr q tn ch sl b m := by rfl
theorem pf_turn_minutes : putF "turn_minutes" (.int z) (flds w h sh wr sr sm tn ch sl b m) = flds w h sh wr sr sm z ch sl b m := by rfl
theorem pf_change_minutes : putF "change_minutes" (.int z) (flds w h sh wr sr sm tn ch sl b m) = flds w h sh wr sr sm tn z sl b m := by rfl
theorem pf_boat_cell : putF "boat_cell" (.int z) (flds w h sh wr sr sm tn ch sl b m) = flds w h sh wr sr sm tn ch sl z m := by rfl
theorem pf_mark_cell : putF "mark_cell" (.int z) (flds w h sh wr sr sm tn ch sl b m) = flds w h sh wr sr sm tn ch sl b z := by rfl
theorem pf_len : (flds w h sh wr sr sm tn ch sl b m).length = 11 := rfl
/-- all attributes laid anew, on an object that has none or all of them -/
theorem pf_all {fs : List (Str × V)} (e : fs = [] ∨ ∃ w h sh wr sr sm tn ch sl b m, fs = flds w h sh wr sr sm tn ch sl b m) :
    putF "mark_cell" (.int m) (putF "boat_cell" (.int b) (putF "sails" (.ref sl) (putF "change_minutes" (.int ch) (putF "turn_minutes" (.int tn) (putF "step_minutes" (.ref sm) (putF "strength_row" (.ref sr) (putF "wind_row" (.ref wr)
      (putF "shoals" (.ref sh) (putF "high" (.int h) (putF "wide" (.int w) fs)))))))))) = flds w h sh wr sr sm tn ch sl b m := by
  rcases e with rfl | ⟨_, _, _, _, _, _, _, _, _, _, _, rfl⟩
  · rfl
  · rfl
theorem putF_len (f : Str) (v : V) : ∀ fs : List (Str × V), (putF f v fs).length ≤ fs.length + 1
  | [] => Nat.le_refl _
  | (g, x) :: r => by
    show (if g = f then (g, v) :: r else (g, x) :: putF f v r).length ≤ _
    split
    · exact Nat.le_succ _
    · exact Nat.succ_le_succ (putF_len f v r)
theorem putF_lt {f : Str} {v : V} {fs : List (Str × V)} {n : Nat} (h : fs.length < n) (hn : n < 1000 := by decide) : (putF f v fs).length < n + 1 := Nat.lt_of_le_of_lt (putF_len f v fs) (Nat.succ_lt_succ h)
end
noncomputable def nv (l : List Nat) : List V := l.map fun (n : Nat) => V.int (n : Int)
noncomputable def shk (l : List Nat) : List (Key × V) := l.map fun (n : Nat) => ((Sum.inl (n : Int) : Key), V.bl true)
/-- a sail's numbers -/
noncomputable def sv (x : Uw29.Sail) : List V := [.int x.lo, .int x.hi, .int x.cost]
/-- sails stand at these places -/
structure Sls (H : Hp) (ts : List Addr) (xs : List Uw29.Sail) : Prop where
  len : ts.length = xs.length
  get : ∀ (i : Nat) (a : Addr), ts[i]? = some a → ∃ x, xs[i]? = some x ∧ H a = some (.tup (sv x))
theorem Sls.keep {H H' : Hp} {ts : List Addr} {xs : List Uw29.Sail} (h : Sls H ts xs) (k : ∀ a ys, H a = some (.tup ys) → H' a = some (.tup ys)) : Sls H' ts xs :=
  ⟨h.len, fun i a e => let ⟨x, e1, e2⟩ := h.get i a e; ⟨x, e1, k _ _ e2⟩⟩
/-- a passage stands at o; F: all that is its own -/
structure PasAt (C : Addr) (H : Hp) (o : Addr) (F : List Addr) (p : Pm.Pas) : Prop where
  ex : ∃ dx sh wr sr sm sl, F = [o, sh, wr, sr, sm, sl] ∧ H o = some (.ins C dx (flds p.water.wide p.water.high sh wr sr sm p.water.turn p.change sl p.water.boat p.water.mark)) ∧
    H sh = some (.dK (shk p.water.shoals)) ∧ H wr = some (.lst (nv p.water.winds)) ∧ H sr = some (.lst (nv p.strong)) ∧ H sm = some (.lst (nv p.water.takes)) ∧ (∃ xs : List Addr, H sl = some (.lst (xs.map V.ref)) ∧ Sls H xs p.sails) ∧ sl ≠ wr ∧ sl ≠ sr ∧ sl ≠ sm
/-- nothing but F changed, what is own behind was own before or is new -/
structure Kp (H H' : Hp) (F F' : List Addr) : Prop where
  own : ∀ b ∈ F', b ∈ F ∨ H b = none
  old : ∀ b u, H b = some u → ¬ b ∈ F → H' b = some u
theorem upd_none {H : Hp} {a b : Addr} {u : HO} (h : upd H a u b = none) : b ≠ a ∧ H b = none := by
  by_cases q : b = a
  · rw [q, upd_same] at h; cases h
  · exact ⟨q, by rw [upd_ne q] at h; exact h⟩
section
variable {P : Program} {w : World} {K : PySem.W.Frag} {mg : Str → Option Value} {base : Heap} {D : Adr}
noncomputable def sp_lay (D : Adr) : Sp := fun vs H Q _ => ∃ (o dx : Addr) (fs : List (Str × V)) (a b : Nat), vs = [.ref o, .int a, .int b] ∧ H o = some (.ins D.C_Passage dx fs) ∧ (fs = [] ∨ ∃ w h sh wr sr sm tn ch sl b m, fs = flds w h sh wr sr sm tn ch sl b m) ∧ a ≤ 4 ∧ b ≤ 4 ∧ 1 ≤ a * b ∧
  ∀ H' F', PasAt D.C_Passage H' o F' (Pm.laid a b) → Kp H H' [o] F' → Q .non H'
theorem ok_Passage_lay (T : Txt K mg D) : FnOk P w K mg base CX0 1 D.f_Passage_lay D.d_Passage_lay ["self", "wide", "high"] (sp_lay D) := by
  refine T.F_Passage_lay.ok sc_Passage_lay (fun vs H Q E h => ?_) (fun cdv A outer s H vs Q E hr h => ?_)
  · obtain ⟨o, dx, fs, a, b, rfl, _⟩ := h
    rfl
  · obtain ⟨o, dx, fs, a, b, rfl, ho, hf, ha, hb, hab, k⟩ := h
    have hlen : fs.length < 12 := by
      rcases hf with rfl | ⟨_, _, _, _, _, _, _, _, _, _, _, rfl⟩
      · decide
      · show 11 < 12; decide
    have cl := T.cl_Passage
    refine ⟨_, (pss_cons (ps_fld (pv 0) (pv 1) rfl)
      (pss_cons (ps_fld (pv 0) (pv 2) rfl)
      (pss_cons (ps_fld (pv 0) pe_dnewK rfl)
      (pss_cons (ps_fld (pv 0) (pe_lst pa_nil) rfl)
      (pss_cons (ps_fld (pv 0) (pe_lst pa_nil) rfl)
      (pss_cons (ps_fld (pv 0) (pe_lst (pa_cons pe_int (pa_cons pe_int (pa_cons pe_int (pa_cons pe_int pa_nil))))) rfl)
      (pss_cons (ps_fld (pv 0) pe_int rfl)
      (pss_cons (ps_fld (pv 0) pe_int rfl)
      (pss_cons (ps_fld (pv 0) (pe_lst pa_nil) rfl)
      (pss_cons (ps_fld (pv 0) pe_int rfl)
      (pss_one (ps_fld (pv 0) (pe_op op_sub (pe_op op_mul (pv 1) (pv 2)) pe_int) rfl)))))))))))), ?_⟩
    refine ⟨_, rfl, _, rfl, o, _, dx, _, rfl, ho, cl, T.n_Passage_wide, by omega, ?_⟩
    refine ⟨_, rfl, _, rfl, o, _, dx, _, rfl, upd_same, cl, T.n_Passage_high, (Nat.lt_trans (putF_lt hlen) (by decide)), ?_⟩
    intro sh h1
    obtain ⟨n1, h1⟩ := upd_none h1
    have h1 := (upd_none h1).2
    refine ⟨_, rfl, o, _, dx, _, rfl, (by rw [upd_ne n1.symm]; exact upd_same), cl, T.n_Passage_shoals, (Nat.lt_trans (putF_lt (putF_lt hlen)) (by decide)), ?_⟩
    refine ⟨Nat.zero_le _, fun wr h2 => ?_⟩
    obtain ⟨n2, h2⟩ := upd_none h2
    obtain ⟨n21, h2⟩ := upd_none h2
    have h2 := (upd_none (upd_none h2).2).2
    refine ⟨_, rfl, o, _, dx, _, rfl, (by rw [upd_ne n2.symm]; exact upd_same), cl, T.n_Passage_wind_row, (Nat.lt_trans (putF_lt (putF_lt (putF_lt hlen))) (by decide)), ?_⟩
    refine ⟨Nat.zero_le _, fun sr h3 => ?_⟩
    obtain ⟨n3, h3⟩ := upd_none h3
    obtain ⟨n32, h3⟩ := upd_none h3
    have h3 := (upd_none h3).2
    obtain ⟨n31, h3⟩ := upd_none h3
    have h3 := (upd_none (upd_none h3).2).2
    refine ⟨_, rfl, o, _, dx, _, rfl, (by rw [upd_ne n3.symm]; exact upd_same), cl, T.n_Passage_strength_row, (Nat.lt_trans (putF_lt (putF_lt (putF_lt (putF_lt hlen)))) (by decide)), ?_⟩
    refine ⟨(by show 4 ≤ sizeLine; decide), fun sm h4 => ?_⟩
    obtain ⟨n4, h4⟩ := upd_none h4
    obtain ⟨n43, h4⟩ := upd_none h4
    have h4 := (upd_none h4).2
    obtain ⟨n42, h4⟩ := upd_none h4
    have h4 := (upd_none h4).2
    obtain ⟨n41, h4⟩ := upd_none h4
    have h4 := (upd_none (upd_none h4).2).2
    refine ⟨_, rfl, o, _, dx, _, rfl, (by rw [upd_ne n4.symm]; exact upd_same), cl, T.n_Passage_step_minutes, (Nat.lt_trans (putF_lt (putF_lt (putF_lt (putF_lt (putF_lt hlen))))) (by decide)), ?_⟩
    refine ⟨_, rfl, o, _, dx, _, rfl, upd_same, cl, T.n_Passage_turn_minutes, (Nat.lt_trans (putF_lt (putF_lt (putF_lt (putF_lt (putF_lt (putF_lt hlen)))))) (by decide)), ?_⟩
    refine ⟨_, rfl, o, _, dx, _, rfl, upd_same, cl, T.n_Passage_change_minutes, (Nat.lt_trans (putF_lt (putF_lt (putF_lt (putF_lt (putF_lt (putF_lt (putF_lt hlen))))))) (by decide)), ?_⟩
    refine ⟨Nat.zero_le _, fun sl h5 => ?_⟩
    obtain ⟨n5, h5⟩ := upd_none h5
    have h5 := (upd_none h5).2
    have h5 := (upd_none h5).2
    obtain ⟨n54, h5⟩ := upd_none h5
    have h5 := (upd_none h5).2
    obtain ⟨n53, h5⟩ := upd_none h5
    have h5 := (upd_none h5).2
    obtain ⟨n52, h5⟩ := upd_none h5
    have h5 := (upd_none h5).2
    obtain ⟨n51, h5⟩ := upd_none h5
    have h5 := (upd_none (upd_none h5).2).2
    refine ⟨_, rfl, o, _, dx, _, rfl, (by rw [upd_ne n5.symm]; exact upd_same), cl, T.n_Passage_sails, (Nat.lt_trans (putF_lt (putF_lt (putF_lt (putF_lt (putF_lt (putF_lt (putF_lt (putF_lt hlen)))))))) (by decide)), ?_⟩
    refine ⟨_, rfl, o, _, dx, _, rfl, upd_same, cl, T.n_Passage_boat_cell, (Nat.lt_trans (putF_lt (putF_lt (putF_lt (putF_lt (putF_lt (putF_lt (putF_lt (putF_lt (putF_lt hlen))))))))) (by decide)), ?_⟩
    refine ⟨_, rfl, _, rfl, _, _, rfl, rfl, .inl ⟨by omega, by omega⟩, _, _, rfl, rfl, ?_⟩
    refine ⟨_, rfl, o, _, dx, _, rfl, upd_same, cl, T.n_Passage_mark_cell, (Nat.lt_trans (putF_lt (putF_lt (putF_lt (putF_lt (putF_lt (putF_lt (putF_lt (putF_lt (putF_lt (putF_lt hlen)))))))))) (by decide)), ?_⟩
    have em : (a : Int) * b - 1 = ((a * b - 1 : Nat) : Int) := by rw [Int.ofNat_sub hab, Int.natCast_mul]; rfl
    dsimp only
    rw [em, pf_all hf]
    refine k _ [o, sh, wr, sr, sm, sl] ⟨dx, sh, wr, sr, sm, sl, rfl, upd_same, ?_, ?_, ?_, ?_, ⟨[], ?_, ⟨rfl, fun i a e => by simp at e⟩⟩, n52, n53, n54⟩ ⟨fun b hb => ?_, fun b u hb hF => ?_⟩
    · simp only [upd, n1, n2, n3, n4, n5, n21, n31, n32, n41, n42, n43, n51, n52, n53, n54, n1.symm, n2.symm, n3.symm, n4.symm, n5.symm, n21.symm, n31.symm, n32.symm, n41.symm, n42.symm, n43.symm, n51.symm, n52.symm, n53.symm, n54.symm, if_false, if_true, ne_eq, reduceIte] <;> rfl
    · simp only [upd, n1, n2, n3, n4, n5, n21, n31, n32, n41, n42, n43, n51, n52, n53, n54, n1.symm, n2.symm, n3.symm, n4.symm, n5.symm, n21.symm, n31.symm, n32.symm, n41.symm, n42.symm, n43.symm, n51.symm, n52.symm, n53.symm, n54.symm, if_false, if_true, ne_eq, reduceIte] <;> rfl
    · simp only [upd, n1, n2, n3, n4, n5, n21, n31, n32, n41, n42, n43, n51, n52, n53, n54, n1.symm, n2.symm, n3.symm, n4.symm, n5.symm, n21.symm, n31.symm, n32.symm, n41.symm, n42.symm, n43.symm, n51.symm, n52.symm, n53.symm, n54.symm, if_false, if_true, ne_eq, reduceIte] <;> rfl
    · simp only [upd, n1, n2, n3, n4, n5, n21, n31, n32, n41, n42, n43, n51, n52, n53, n54, n1.symm, n2.symm, n3.symm, n4.symm, n5.symm, n21.symm, n31.symm, n32.symm, n41.symm, n42.symm, n43.symm, n51.symm, n52.symm, n53.symm, n54.symm, if_false, if_true, ne_eq, reduceIte] <;> rfl
    · simp only [upd, n1, n2, n3, n4, n5, n21, n31, n32, n41, n42, n43, n51, n52, n53, n54, n1.symm, n2.symm, n3.symm, n4.symm, n5.symm, n21.symm, n31.symm, n32.symm, n41.symm, n42.symm, n43.symm, n51.symm, n52.symm, n53.symm, n54.symm, if_false, if_true, ne_eq, reduceIte] <;> rfl
    · simp only [List.mem_cons, List.not_mem_nil, or_false] at hb ⊢
      rcases hb with rfl | rfl | rfl | rfl | rfl | rfl
      · exact .inl rfl
      · exact .inr h1
      · exact .inr h2
      · exact .inr h3
      · exact .inr h4
      · exact .inr h5
    · have q0 : b ≠ o := fun q => hF (q ▸ List.Mem.head _)
      have q1 := ne_of_none hb h1
      have q2 := ne_of_none hb h2
      have q3 := ne_of_none hb h3
      have q4 := ne_of_none hb h4
      have q5 := ne_of_none hb h5
      simp only [upd_ne q0, upd_ne q1, upd_ne q2, upd_ne q3, upd_ne q4, upd_ne q5]
      exact hb
end
section
variable {K : PySem.W.Frag} {i : Nat} {σ : L2.St} {H : Hp} {Q : VK}
/-! readings, in one step each -/
theorem rdF {f : Str} {a C dx : Addr} {fs : List (Str × V)} {v : V} (h1 : σ[i]? = some (some (.ref a))) (h2 : H a = some (.ins C dx fs)) (h3 : Cls K C) (h4 : NoAttr K C f) (h5 : fs.lookup f = some v) (q : Q v H) : tFld K (tVar i) f σ H Q := ⟨_, h1, a, C, dx, fs, v, rfl, h2, h3, h4, h5, q⟩
theorem rdM {m : Str} {sp : Sp} {dvs : List V} {E : XK} {t : TA} {a C dx : Addr} {fs : List (Str × V)} (h1 : σ[i]? = some (some (.ref a))) (h2 : H a = some (.ins C dx fs)) (h3 : fs.lookup m = none) (q : t σ H fun vs H2 => sp (.ref a :: (vs ++ dvs)) H2 Q E) : tMeth C m sp dvs E (tVar i) t σ H Q := ⟨_, h1, a, dx, fs, rfl, h2, h3, q⟩
theorem rdV {v : V} (h1 : σ[i]? = some (some v)) (q : Q v H) : tVar i σ H Q := ⟨v, h1, q⟩
theorem rdXL {p : Addr} {xs : List V} {k : Int} {v : V} (h1 : SqL K H p xs) (h2 : atI xs k = some v) (q : Q v H) : rIxL K (.ref p) (.int k) H Q := ⟨p, xs, k, v, rfl, rfl, h1, h2, q⟩
theorem rdXT {p : Addr} {xs : List V} {k : Int} {v : V} (h1 : SqT K H p xs) (h2 : atI xs k = some v) (q : Q v H) : rIxT K (.ref p) (.int k) H Q := ⟨p, xs, k, v, rfl, rfl, h1, h2, q⟩
theorem rdO {f : Int → Int → V} {a b : Int} (q : Q (f a b) H) : rI0 f (.int a) (.int b) H Q := ⟨a, b, rfl, rfl, q⟩
theorem rdC {C : Int → Int → Prop} {f : Int → Int → V} {a b : Int} (c : C a b) (q : Q (f a b) H) : rI C f (.int a) (.int b) H Q := ⟨a, b, rfl, rfl, c, q⟩
end
end Pa

end
section
set_option Elab.async false
set_option linter.all false
set_option maxRecDepth 100000
set_option maxHeartbeats 2000000
namespace Pa
open PySem PySem.Spec PyProof.Rows L2
theorem iteT1 {b : Bool} {A B : Prop} (e : b = true) (h : A) : if b = true then A else B := by rw [if_pos e]; exact h
theorem iteF1 {b : Bool} {A B : Prop} (e : b = false) (h : B) : if b = true then A else B := by rw [if_neg (by rw [e]; exact Bool.false_ne_true)]; exact h
section
variable {P : Program} {w : World} {K : PySem.W.Frag} {mg : Str → Option Value} {base : Heap} {D : Adr}
noncomputable def sp_is_extent : Sp := fun vs H Q _ => ∃ n : Nat, vs = [.int n] ∧ Q (.bl (Pm.isExtent n)) H
theorem ok_is_extent (T : Txt K mg D) : FnOk P w K mg base CX0 1 D.f_is_extent D.d_is_extent ["cells"] sp_is_extent := by
  refine T.F_is_extent.ok sc_is_extent (fun vs H Q E h => ?_) (fun cdv A outer s H vs Q E hr h => ?_)
  · obtain ⟨n, rfl, _⟩ := h
    rfl
  · obtain ⟨n, rfl, k⟩ := h
    refine ⟨_, (pss_one (ps_ret (pe_and (pe_cmpR op_le (pe_gc rfl T.c_LEAST_CELLS) (pv 0) (nomark _)) (pe_one (pe_cmpR op_le (pv 0) (pe_gc rfl T.c_MOST_CELLS) (nomark _)))))), ?_⟩
    unfold Pm.isExtent at k
    refine rdV rfl (rdO ⟨_, rfl, ?_⟩)
    have e1 : decide ((2 : Int) ≤ (n : Int)) = decide (2 ≤ n) := by simp only [decide_eq_decide]; omega
    have e2 : decide ((n : Int) ≤ (4 : Int)) = decide (n ≤ 4) := by simp only [decide_eq_decide]; omega
    by_cases h : 2 ≤ n
    · rw [decide_eq_true h] at k e1
      refine iteT1 e1 (rdV rfl (rdO ?_))
      show Q (.bl (decide ((n : Int) ≤ (4 : Int)))) H
      rw [e2]
      simpa using k
    · rw [decide_eq_false h] at k e1
      exact iteF1 e1 (by simpa using k)
noncomputable def sp_is_row (K : PySem.W.Frag) : Sp := fun vs H Q _ => ∃ (a : Addr) (l : List Nat) (g : Nat), vs = [.ref a, .int g] ∧ SqL K H a (nv l) ∧ Q (.bl (Pm.isRow l g)) H
theorem small1 {n : Nat} (h : n ≤ 1000) : n ≤ sizeLine := Nat.le_of_lt (small1000 h)
theorem nv_map (l : List Nat) : nv l = (Pm.intsN l).map V.int := by
  unfold nv Pm.intsN
  rw [List.map_map]
  rfl
theorem nv_length (l : List Nat) : (nv l).length = l.length := List.length_map ..
theorem ok_is_row (T : Txt K mg D) : FnOk P w K mg base CX0 1 D.f_is_row D.d_is_row ["row", "greatest"] (sp_is_row K) := by
  refine T.F_is_row.ok sc_is_row (fun vs H Q E h => ?_) (fun cdv A outer s H vs Q E hr h => ?_)
  · obtain ⟨a, l, g, rfl, _⟩ := h
    rfl
  · obtain ⟨a, l, g, rfl, hl, k⟩ := h
    refine ⟨_, (pss_one (ps_ret (pe_and (pe_cmpR op_le (pe_callB call_len_seq (by rfl) T.z_len bt_len (pa_cons (pv 0) pa_nil)) (pe_gc rfl T.c_LONGEST_ROW) (nomark _)) (pe_one (pe_cmpR op_le (pe_maxD rfl (by rfl) T.z_max (pa_cons (pv 0) pa_nil) pe_int) (pv 1) (nomark _)))))), ?_⟩
    refine (rdV rfl ⟨a, nv l, rfl, .inl hl, rdO ⟨_, rfl, ?_⟩⟩)
    rw [nv_length]
    have e1 : decide (((l.length : Nat) : Int) ≤ 12) = decide (l.length ≤ 12) := by simp only [decide_eq_decide]; omega
    rw [e1]
    unfold Pm.isRow at k
    by_cases h : l.length ≤ 12
    · rw [decide_eq_true h] at k ⊢
      refine iteT (rdV rfl ⟨a, Pm.intsN l, 0, rfl, rfl, (by rw [← nv_map]; exact hl), fun M h0 h1 => (rdV rfl (rdO ?_))⟩)
      have e2 : decide (M ≤ (g : Int)) = l.all fun n => decide (n ≤ g) := by
        rw [Bool.eq_iff_iff, decide_eq_true_eq, List.all_eq_true]
        simp only [decide_eq_true_eq]
        cases l with
        | nil =>
          have := h0 rfl
          constructor
          · intro _ n hn; cases hn
          · intro _; omega
        | cons x r =>
          obtain ⟨hm, hall⟩ := h1 (by unfold Pm.intsN; simp)
          constructor
          · intro q n hn
            have := hall (n : Int) (List.mem_map.mpr ⟨n, hn, rfl⟩)
            omega
          · intro q
            obtain ⟨n, hn, rfl⟩ := List.mem_map.mp hm
            have := q n hn
            omega
      show Q (.bl (decide (M ≤ (g : Int)))) H
      rw [e2]
      simpa using k
    · rw [decide_eq_false h] at k ⊢
      refine iteF ?_
      simpa using k
theorem same_new {H : Hp} {q : Addr} {u : HO} (h : H q = none) : Same H (upd H q u) := fun b o e => by rw [upd_ne (ne_of_none e h)]; exact e
noncomputable def sp_has_row : Sp := fun vs H Q _ => ∃ n : Int, vs = [.int n] ∧ ∀ H', Same H H' → Q (.bl (decide (n = 2) || (decide (n = 3) || decide (n = 9)))) H'
theorem eqV_int (a b : Int) : eqV (.int a) (.int b) = decide (b = a) := by
  unfold eqV
  by_cases h : a = b
  · simp [h]
  · simp [h, Ne.symm h]
theorem ok_has_row (T : Txt K mg D) : FnOk P w K mg base CX0 1 D.f_has_row D.d_has_row ["call"] sp_has_row := by
  refine T.F_has_row.ok sc_has_row (fun vs H Q E h => ?_) (fun cdv A outer s H vs Q E hr h => ?_)
  · obtain ⟨n, rfl, _⟩ := h
    rfl
  · obtain ⟨n, rfl, k⟩ := h
    refine ⟨_, (pss_one (ps_ret (pe_cmpR op_in_seq (pv 0) (pe_tup (pa_cons (pe_gc (by rfl) T.c_WINDS) (pa_cons (pe_gc (by rfl) T.c_STRONG) (pa_cons (pe_gc (by rfl) T.c_CHECK) pa_nil)))) rfl))), ?_⟩
    refine ⟨_, rfl, small1 (by show 3 ≤ 1000; decide), fun q hq => ⟨q, _, rfl, .inr (SqT.of upd_same), rfl, rfl, ?_⟩⟩
    show Q (.bl (inV (.int n) [.int 2, .int 3, .int 9])) _
    have e : inV (.int n) [.int 2, .int 3, .int 9] = (decide (n = 2) || (decide (n = 3) || decide (n = 9))) := by
      unfold inV
      simp only [List.any_cons, List.any_nil, eqV_int, Bool.or_false]
    rw [e]
    exact k _ (same_new hq)
/-- what a row tells of a minute -/
noncomputable def told (l : List Nat) (m : Nat) : Nat := if l.length = 0 then 0 else l.getD (m % l.length) 0
noncomputable def sp_told_at (K : PySem.W.Frag) : Sp := fun vs H Q _ => ∃ (a : Addr) (l : List Nat) (m : Nat), vs = [.ref a, .int m] ∧ SqL K H a (nv l) ∧ Q (.int (told l m)) H
theorem ok_told_at (T : Txt K mg D) : FnOk P w K mg base CX0 1 D.f_told_at D.d_told_at ["row", "minute"] (sp_told_at K) := by
  refine T.F_told_at.ok sc_told_at (fun vs H Q E h => ?_) (fun cdv A outer s H vs Q E hr h => ?_)
  · obtain ⟨a, l, m, rfl, _⟩ := h
    rfl
  · obtain ⟨a, l, m, rfl, hl, k⟩ := h
    refine ⟨_, (pss_cons (ps_if (pt_cmpR op_eq (pe_callB call_len_seq (by rfl) T.z_len bt_len (pa_cons (pv 0) pa_nil)) pe_int (nomark _))
  (pss_one (ps_ret pe_int))
  pss_nil)
 (pss_one (ps_ret (pe_ix ix_list (pv 0) (pe_op op_mod (pv 1) (pe_callB call_len_seq (by rfl) T.z_len bt_len (pa_cons (pv 0) pa_nil))) (fun _ _ => rfl))))), ?_⟩
    refine ⟨_, rfl, a, _, rfl, .inl hl, rfl, _, rfl, ?_⟩
    rw [nv_length]
    unfold told at k
    by_cases h : l.length = 0
    · rw [if_pos h] at k
      rw [decide_eq_true (by rw [h]; rfl)]
      exact iteT k
    · rw [if_neg h] at k
      rw [decide_eq_false (fun z => h (by have := V.int.inj z; omega))]
      refine iteF ⟨_, rfl, _, rfl, _, rfl, a, _, rfl, .inl hl, rdC (by rw [nv_length]; omega) (rdXL (v := .int (l.getD (m % l.length) 0 : Nat)) hl ?_ k)⟩
      rw [nv_length]
      refine at_of (j := m % l.length) (by rw [Int.natCast_emod]) ?_
      unfold nv
      have hm : m % l.length < l.length := Nat.mod_lt _ (by omega)
      rw [List.getElem?_map, List.getElem?_eq_getElem hm, List.getD_eq_getElem?_getD, List.getElem?_eq_getElem hm]
      rfl
noncomputable def sp_point_of : Sp := fun vs H Q _ => ∃ n : Nat, vs = [.int n] ∧ n < 8 ∧ Q (.int (min n (8 - n) : Nat)) H
theorem ok_point_of (T : Txt K mg D) : FnOk P w K mg base CX0 1 D.f_point_of D.d_point_of ["eighths"] sp_point_of := by
  refine T.F_point_of.ok sc_point_of (fun vs H Q E h => ?_) (fun cdv A outer s H vs Q E hr h => ?_)
  · obtain ⟨n, rfl, _⟩ := h
    rfl
  · obtain ⟨n, rfl, hn, k⟩ := h
    refine ⟨_, (pss_one (ps_ret (pe_callB (call_min2 rfl) (by rfl) T.z_min bt_min (pa_cons (pv 0) (pa_cons (pe_op op_sub (pe_gc (by rfl) T.c_EIGHTHS) (pv 0)) pa_nil))))), ?_⟩
    refine ⟨_, rfl, _, rfl, rdO ⟨_, _, rfl, ?_⟩⟩
    have e : (if (8 : Int) - (n : Int) < (n : Int) then (8 : Int) - (n : Int) else (n : Int)) = ((min n (8 - n) : Nat) : Int) := by
      split <;> omega
    show Q (.int (if (8 : Int) - (n : Int) < (n : Int) then (8 : Int) - (n : Int) else (n : Int))) H
    rw [e]
    exact k
noncomputable def sideE (n : Nat) : Nat := if n = 0 ∨ n = 4 then 0 else if n < 4 then 1 else 2
noncomputable def sp_side_of : Sp := fun vs H Q _ => ∃ n : Nat, vs = [.int n] ∧ n < 8 ∧ Q (.int (sideE n : Nat)) H
theorem ok_side_of (T : Txt K mg D) : FnOk P w K mg base CX0 1 D.f_side_of D.d_side_of ["eighths"] sp_side_of := by
  refine T.F_side_of.ok sc_side_of (fun vs H Q E h => ?_) (fun cdv A outer s H vs Q E hr h => ?_)
  · obtain ⟨n, rfl, _⟩ := h
    rfl
  · obtain ⟨n, rfl, hn, k⟩ := h
    refine ⟨_, (pss_cons (ps_if (PW.pt (pw_or (pt_cmpR op_eq (pv 0) pe_int (nomark _)) (pw_or1 (pt_cmpR op_eq (pe_op op_mul pe_int (pv 0)) (pe_gc (by rfl) T.c_EIGHTHS) (nomark _)))))
  (pss_one (ps_ret (pe_gc (by rfl) T.c_NO_SIDE)))
  pss_nil)
 (pss_cons (ps_if (pt_cmpR op_lt (pe_op op_mul pe_int (pv 0)) (pe_gc (by rfl) T.c_EIGHTHS) (nomark _))
  (pss_one (ps_ret (pe_gc (by rfl) T.c_SIDE_ON)))
  pss_nil)
 (pss_one (ps_ret (pe_gc (by rfl) T.c_SIDE_BACK))))), ?_⟩
    have cm : ∀ j : Int, CMul 2 j := fun j => .inl ⟨by decide, by decide⟩
    refine (rdV rfl ⟨rfl, _, rfl, ?_⟩)
    unfold sideE at k
    by_cases h0 : n = 0
    · subst h0
      exact iteT (iteT k)
    · rw [decide_eq_false (fun z => h0 (by have := V.int.inj z; omega))]
      refine iteF (rdV rfl (rdC (cm _) ⟨rfl, _, rfl, ?_⟩))
      by_cases h4 : n = 4
      · subst h4
        exact iteT k
      · rw [decide_eq_false (fun z => h4 (by have := V.int.inj z; omega))]
        rw [if_neg (by omega)] at k
        refine iteF ⟨_, rfl, rdC (cm _) (rdO ⟨_, rfl, ?_⟩)⟩
        by_cases h : n < 4
        · rw [if_pos h] at k
          rw [decide_eq_true (by omega)]
          exact iteT k
        · rw [if_neg h] at k
          rw [decide_eq_false (by omega)]
          exact iteF k
noncomputable def sp_stands (K : PySem.W.Frag) : Sp := fun vs H Q _ => ∃ (a : Addr) (x : Uw29.Sail) (n : Nat), vs = [.ref a, .int n] ∧ SqT K H a (sv x) ∧ Q (.bl (Uw29.stands x n)) H
theorem ok_stands (T : Txt K mg D) : FnOk P w K mg base CX0 1 D.f_stands D.d_stands ["sail", "strength"] (sp_stands K) := by
  refine T.F_stands.ok sc_stands (fun vs H Q E h => ?_) (fun cdv A outer s H vs Q E hr h => ?_)
  · obtain ⟨a, x, n, rfl, _⟩ := h
    rfl
  · obtain ⟨a, x, n, rfl, hx, k⟩ := h
    refine ⟨_, (pss_one (ps_ret (pe_and (pe_cmpR op_le (pe_ix ix_tup (pv 0) (pe_gc (by rfl) T.c_LEAST) (fun _ _ => rfl)) (pv 1) (nomark _)) (pe_one (pe_cmpR op_le (pv 1) (pe_ix ix_tup (pv 0) (pe_gc (by rfl) T.c_GREATEST) (fun _ _ => rfl)) (nomark _)))))), ?_⟩
    unfold Uw29.stands at k
    refine (rdV rfl (rdXT hx rfl (rdV rfl (rdO ⟨_, rfl, ?_⟩))))
    have e1 : decide ((x.lo : Int) ≤ (n : Int)) = decide (x.lo ≤ n) := by simp only [decide_eq_decide]; omega
    have e2 : decide ((n : Int) ≤ (x.hi : Int)) = decide (n ≤ x.hi) := by simp only [decide_eq_decide]; omega
    rw [e1]
    by_cases h : x.lo ≤ n
    · rw [decide_eq_true h] at k ⊢
      refine iteT (rdV rfl (rdV rfl (rdXT hx rfl (rdO ?_))))
      show Q (.bl (decide ((n : Int) ≤ (x.hi : Int)))) H
      rw [e2]
      simpa using k
    · rw [decide_eq_false h] at k ⊢
      exact iteF (by simpa using k)
end
end Pa

end
section
set_option Elab.async false
set_option linter.all false
set_option maxRecDepth 100000
set_option maxHeartbeats 2000000
namespace Pa
open PySem PySem.Spec PyProof.Rows L2
theorem decN (a b : Nat) : decide (V.int (a : Int) = V.int (b : Int)) = decide (a = b) := by
  rw [decide_eq_decide]
  exact ⟨fun z => by have := V.int.inj z; omega, fun z => by rw [z]⟩
theorem Kp.refl (H : Hp) (F : List Addr) : Kp H H F F := ⟨fun b hb => .inl hb, fun b u h _ => h⟩
theorem Kp.sub {H H' : Hp} {F G F' : List Addr} (k : Kp H H' F F') (h : ∀ b ∈ F, b ∈ G) : Kp H H' G F' := ⟨fun b hb => (k.own b hb).imp (h b) id, fun b u hu hn => k.old b u hu fun q => hn (h b q)⟩
theorem PasAt.mem {C : Addr} {H : Hp} {o : Addr} {F : List Addr} {p : Pm.Pas} (h : PasAt C H o F p) : o ∈ F := by
  obtain ⟨dx, sh, wr, sr, sm, sl, rfl, _⟩ := h.ex
  exact List.Mem.head _
theorem shk_val (l : List Nat) (c : Nat) : (valV (shk l) (Sum.inl (c : Int) : Key)).isSome = decide (c ∈ l) := by
  rw [← valV_any]
  unfold shk
  rw [List.any_map, Bool.eq_iff_iff, List.any_eq_true, decide_eq_true_eq]
  constructor
  · rintro ⟨x, hx, h⟩
    have h := of_decide_eq_true h
    have h : (x : Int) = (c : Int) := Sum.inl.inj h
    have h : x = c := by omega
    exact h ▸ hx
  · intro h
    exact ⟨c, h, decide_eq_true rfl⟩
theorem shk_put (l : List Nat) (c : Nat) (h : ¬ c ∈ l) : putK (shk l) (Sum.inl (c : Int) : Key) (V.bl true) = shk (l ++ [c]) := by
  have e : valV (shk l) (Sum.inl (c : Int) : Key) = none := by
    have q := shk_val l c
    rw [decide_eq_false h] at q
    cases z : valV (shk l) (Sum.inl (c : Int) : Key) with
    | none => rfl
    | some v => rw [z] at q; cases q
  rw [putK_new _ e]
  unfold shk
  rw [List.map_append]
  rfl
section
variable {P : Program} {w : World} {K : PySem.W.Frag} {mg : Str → Option Value} {base : Heap} {D : Adr}
noncomputable def sp_init (D : Adr) : Sp := fun vs H Q _ => ∃ (o dx : Addr), vs = [.ref o] ∧ H o = some (.ins D.C_Passage dx []) ∧ ∀ H' F', PasAt D.C_Passage H' o F' Uw32.init → Kp H H' [o] F' → Q .non H'
theorem ok_Passage_init (T : Txt K mg D) : FnOk P w K mg base CX0 2 D.f_Passage_init D.d_Passage_init ["self"] (sp_init D) := by
  refine T.F_Passage_init.ok sc_Passage_init (fun vs H Q E h => ?_) (fun cdv A outer s H vs Q E hr h => ?_)
  · obtain ⟨o, dx, rfl, _⟩ := h
    rfl
  · obtain ⟨o, dx, rfl, ho, k⟩ := h
    refine ⟨_, (pss_one (ps_expr (pe_meth (pv 0) T.cl_Passage T.m_Passage_lay (ok_Passage_lay T) (hr.mono (by decide)) T.b_Passage_lay .nil pass0 (pa_cons (pe_gc rfl T.c_LEAST_CELLS) (pa_cons (pe_gc rfl T.c_LEAST_CELLS) pa_nil))))), ?_⟩
    refine (rdM rfl ho rfl ⟨o, dx, [], 2, 2, rfl, ho, .inl rfl, by decide, by decide, by decide, fun H' F' h1 h2 => ?_⟩)
    exact k H' F' h1 h2
noncomputable def sp_begins (D : Adr) : Sp := fun vs H Q _ => ∃ (o : Addr) (F : List Addr) (p : Pm.Pas) (x y : Nat), vs = [.ref o, .int x, .int y] ∧ PasAt D.C_Passage H o F p ∧
  ∀ H' F', PasAt D.C_Passage H' o F' (Uw32.step p (.begins x y)).1 → Kp H H' F F' → Q (.int (Uw32.step p (.begins x y)).2.v) H'
theorem ok_Passage_begins (T : Txt K mg D) : FnOk P w K mg base CX0 3 D.f_Passage_begins D.d_Passage_begins ["self", "wide", "high"] (sp_begins D) := by
  refine T.F_Passage_begins.ok sc_Passage_begins (fun vs H Q E h => ?_) (fun cdv A outer s H vs Q E hr h => ?_)
  · obtain ⟨o, F, p, x, y, rfl, _⟩ := h
    rfl
  · obtain ⟨o, F, p, x, y, rfl, hp, k⟩ := h
    refine ⟨_, (pss_cons (ps_if (PW.pt (pw_or (pt_not (pt_val (pe_call (ok_is_extent T) (hr.mono (by decide)) (by rfl) T.g_is_extent T.F_is_extent.kp T.b_is_extent .nil pass0 (pa_cons (pv 1) pa_nil)))) (pw_or1 (pt_not (pt_val (pe_call (ok_is_extent T) (hr.mono (by decide)) (by rfl) T.g_is_extent T.F_is_extent.kp T.b_is_extent .nil pass0 (pa_cons (pv 2) pa_nil)))))))
      (pss_one (ps_ret (pe_gc rfl T.c_OUT_OF_BOUNDS)))
      pss_nil)
      (pss_cons (ps_expr (pe_meth (pv 0) T.cl_Passage T.m_Passage_lay (ok_Passage_lay T) (hr.mono (by decide)) T.b_Passage_lay .nil pass0 (pa_cons (pv 1) (pa_cons (pv 2) pa_nil))))
      (pss_one (ps_ret pe_int)))), ?_⟩
    rw [Pm.step_begins] at k
    refine (rdV rfl ⟨x, rfl, _, rfl, ?_⟩)
    cases h1 : Pm.isExtent x with
    | false =>
      rw [if_neg (by rw [h1]; simp)] at k
      exact iteT (iteT (k H F hp (Kp.refl _ _)))
    | true =>
      refine iteF (rdV rfl ⟨y, rfl, _, rfl, ?_⟩)
      cases h2 : Pm.isExtent y with
      | false =>
        rw [if_neg (by rw [h2]; simp)] at k
        exact iteT (k H F hp (Kp.refl _ _))
      | true =>
        rw [if_pos ⟨h1, h2⟩] at k
        obtain ⟨dx, sh, wr, sr, sm, sl, eF, ho, _⟩ := hp.ex
        unfold Pm.isExtent at h1 h2
        simp only [Bool.and_eq_true, decide_eq_true_eq] at h1 h2
        have hxy : 1 ≤ x * y := Nat.le_trans (by decide) (Nat.mul_le_mul h1.1 h2.1)
        refine iteF (rdM rfl ho rfl (rdV rfl (rdV rfl ⟨o, dx, _, x, y, rfl, ho, .inr ⟨_, _, _, _, _, _, _, _, _, _, _, rfl⟩, h1.2, h2.2, hxy, fun H' F' h3 h4 => ?_⟩)))
        exact k H' F' h3 (h4.sub fun b hb => by rw [List.mem_singleton.mp hb]; exact hp.mem)
noncomputable def sp_has_cell (D : Adr) : Sp := fun vs H Q _ => ∃ (o : Addr) (F : List Addr) (p : Pm.Pas) (c : Nat), vs = [.ref o, .int c] ∧ PasAt D.C_Passage H o F p ∧ Pm.Good p ∧ Q (.bl (decide (c < p.water.cells))) H
theorem ok_Passage_has_cell (T : Txt K mg D) : FnOk P w K mg base CX0 1 D.f_Passage_has_cell D.d_Passage_has_cell ["self", "cell"] (sp_has_cell D) := by
  refine T.F_Passage_has_cell.ok sc_Passage_has_cell (fun vs H Q E h => ?_) (fun cdv A outer s H vs Q E hr h => ?_)
  · obtain ⟨o, F, p, c, rfl, _⟩ := h
    rfl
  · obtain ⟨o, F, p, c, rfl, hp, g, k⟩ := h
    have cl := T.cl_Passage
    obtain ⟨dx, sh, wr, sr, sm, sl, eF, ho, _⟩ := hp.ex
    refine ⟨_, (pss_one (ps_ret (pe_cmpR op_lt (pv 1) (pe_op op_mul (pe_fld (pv 0) rfl) (pe_fld (pv 0) rfl)) (nomark _)))), ?_⟩
    have w4 := g.w4
    refine (rdV rfl (rdF rfl ho cl T.n_Passage_wide lk_wide (rdF rfl ho cl T.n_Passage_high lk_high (rdC (.inl ⟨by omega, by omega⟩) (rdO ?_)))))
    have e1 : decide ((c : Int) < (p.water.wide : Int) * (p.water.high : Int)) = decide (c < p.water.cells) := by
      unfold Uw28.Water.cells
      rw [decide_eq_decide, ← Int.natCast_mul]
      omega
    show Q (.bl (decide ((c : Int) < (p.water.wide : Int) * (p.water.high : Int)))) H
    rw [e1]
    exact k
noncomputable def sp_shoal (D : Adr) : Sp := fun vs H Q _ => ∃ (o : Addr) (F : List Addr) (p : Pm.Pas) (c : Nat), vs = [.ref o, .int c] ∧ PasAt D.C_Passage H o F p ∧ Pm.Good p ∧
  ∀ H' F', PasAt D.C_Passage H' o F' (Uw32.step p (.shoal c)).1 → Kp H H' F F' → Q (.int (Uw32.step p (.shoal c)).2.v) H'
theorem nodup_le : ∀ (n : Nat) (l : List Nat), l.Nodup → (∀ c ∈ l, c < n) → l.length ≤ n
  | 0, [], _, _ => Nat.le_refl _
  | 0, c :: r, _, h => absurd (h c (List.Mem.head _)) (Nat.not_lt_zero _)
  | n + 1, l, nd, h => by
    have ih := nodup_le n (l.erase n) (nd.erase n) fun c hc => by
      have h1 := h c (List.mem_of_mem_erase hc)
      have h2 : c ≠ n := fun e => by
        rw [e] at hc
        exact (List.Nodup.not_mem_erase nd) hc
      omega
    have : l.length ≤ (l.erase n).length + 1 := by
      rw [List.length_erase]
      split <;> omega
    omega
theorem ok_Passage_shoal (T : Txt K mg D) : FnOk P w K mg base CX0 2 D.f_Passage_shoal D.d_Passage_shoal ["self", "cell"] (sp_shoal D) := by
  refine T.F_Passage_shoal.ok sc_Passage_shoal (fun vs H Q E h => ?_) (fun cdv A outer s H vs Q E hr h => ?_)
  · obtain ⟨o, F, p, c, rfl, _⟩ := h
    rfl
  · obtain ⟨o, F, p, c, rfl, hp, g, k⟩ := h
    have hu := hu_of hr
    have cl := T.cl_Passage
    obtain ⟨dx, sh, wr, sr, sm, sl, eF, ho, hsh, hwr, hsr, hsm, ⟨xs, hsl, hxs⟩, d1, d2, d3⟩ := hp.ex
    refine ⟨_, (pss_cons (ps_if (pt_not (pt_val (pe_meth (pv 0) T.cl_Passage T.m_Passage_has_cell (ok_Passage_has_cell T) (hr.mono (by decide)) T.b_Passage_has_cell .nil pass0 (pa_cons (pv 1) pa_nil))))
  (pss_one (ps_ret (pe_gc (by rfl) T.c_NO_SUCH_CELL)))
  pss_nil)
 (pss_cons (ps_if (PW.pt (pw_or (pt_cmpR op_eq (pv 1) (pe_fld (pv 0) rfl) (nomark _)) (pw_or1 (pt_cmpR op_eq (pv 1) (pe_fld (pv 0) rfl) (nomark _)))))
  (pss_one (ps_ret (pe_gc (by rfl) T.c_CELL_TAKEN)))
  pss_nil)
 (pss_cons (ps_if (pt_cmp (pc_din hu (pv 1) (pe_fld (pv 0) rfl)))
  (pss_one (ps_ret (pe_gc (by rfl) T.c_SHOAL_ALREADY)))
  pss_nil)
 (pss_cons (ps_dput hu (pe_fld (pv 0) rfl) (pv 1) pe_bl rfl)
 (pss_one (ps_ret (pe_callB call_lenD (by rfl) T.z_len bt_len (pa_cons (pe_fld (pv 0) rfl) pa_nil)))))))), ?_⟩
    rw [Pm.step_shoal] at k
    refine (rdM rfl ho rfl (rdV rfl ⟨o, F, p, c, rfl, hp, g, _, rfl, ?_⟩))
    by_cases q : p.water.cells ≤ c
    · rw [if_pos q] at k
      rw [decide_eq_false (by omega)]
      exact iteT (k H F hp (Kp.refl _ _))
    · rw [if_neg q] at k
      rw [decide_eq_true (by omega)]
      refine iteF ?_
      refine ⟨_, rfl, rdF rfl ho cl T.n_Passage_boat_cell lk_boat_cell ⟨rfl, _, rfl, ?_⟩⟩
      have e2 : ∀ a b : Nat, decide (V.int (a : Int) = V.int (b : Int)) = decide (a = b) := fun a b => by
        rw [decide_eq_decide]
        constructor
        · intro z; have := V.int.inj z; omega
        · intro z; rw [z]
      rw [e2]
      by_cases hb : c = p.water.boat
      · rw [decide_eq_true hb]
        rw [if_pos (Or.inl hb)] at k
        exact iteT (iteT (k H F hp (Kp.refl _ _)))
      · rw [decide_eq_false hb]
        refine iteF (rdV rfl (rdF rfl ho cl T.n_Passage_mark_cell lk_mark_cell ⟨rfl, _, rfl, ?_⟩))
        rw [e2]
        by_cases hm : c = p.water.mark
        · rw [decide_eq_true hm]
          rw [if_pos (Or.inr hm)] at k
          exact iteT (k H F hp (Kp.refl _ _))
        · rw [decide_eq_false hm]
          rw [if_neg (fun z => z.elim hb hm)] at k
          refine iteF ⟨_, rfl, rdF rfl ho cl T.n_Passage_shoals lk_shoals ⟨sh, _, rfl, DGet.k (k := Sum.inl (c : Int)) hsh, _, rfl, ?_⟩⟩
          rw [shk_val]
          by_cases hs : c ∈ p.water.shoals
          · rw [decide_eq_true hs]
            rw [if_pos hs] at k
            exact iteT (k H F hp (Kp.refl _ _))
          · rw [decide_eq_false hs]
            rw [if_neg hs] at k
            have nso : o ≠ sh := ne_of ho hsh (by intro z; cases z)
            have hl : p.water.shoals.length ≤ 16 := by
              have := nodup_le p.water.cells p.water.shoals g.shn g.sh
              have h1 : p.water.cells ≤ 4 * 4 := Nat.mul_le_mul g.w4 g.h4
              omega
            have ho' : ∀ u, (upd H sh u) o = some (.ins D.C_Passage dx (flds p.water.wide p.water.high sh wr sr sm p.water.turn p.change sl p.water.boat p.water.mark)) := fun u => by rw [upd_ne nso]; exact ho
            refine iteF ⟨_, rfl, o, _, dx, _, _, rfl, ho, cl, T.n_Passage_shoals, lk_shoals, _, rfl, sh, _, rfl, DPut.k (k := Sum.inl (c : Int)) hsh (small1000 (by unfold shk; rw [List.length_map]; omega)), ?_⟩
            refine (rdF rfl (ho' _) cl T.n_Passage_shoals lk_shoals ⟨sh, _, rfl, upd_same, ?_⟩)
            rw [shk_put _ _ hs]
            have el : (((shk (p.water.shoals ++ [c])).length : Nat) : Int) = ((p.water.shoals.length + 1 : Nat) : Int) := by
              unfold shk
              rw [List.length_map, List.length_append]
              rfl
            rw [el]
            have nk : ∀ {a : Addr} {ys : List V}, H a = some (.lst ys) → a ≠ sh := fun h => ne_of h hsh (by intro z; cases z)
            refine k _ F ⟨dx, sh, wr, sr, sm, sl, eF, ho' _, upd_same, ?_, ?_, ?_, ⟨xs, ?_, hxs.keep fun a ys h => by rw [upd_ne (ne_of h hsh (by intro z; cases z))]; exact h⟩, d1, d2, d3⟩ ⟨fun b hb => .inl hb, fun b u hb hF => ?_⟩
            · rw [upd_ne (nk hwr)]; exact hwr
            · rw [upd_ne (nk hsr)]; exact hsr
            · rw [upd_ne (nk hsm)]; exact hsm
            · rw [upd_ne (nk hsl)]; exact hsl
            · rw [upd_ne (fun z => hF (by rw [z, eF]; simp))]; exact hb
noncomputable def sp_places (D : Adr) : Sp := fun vs H Q _ => ∃ (o : Addr) (F : List Addr) (p : Pm.Pas) (b m : Nat), vs = [.ref o, .int b, .int m] ∧ PasAt D.C_Passage H o F p ∧ Pm.Good p ∧
  ∀ H' F', PasAt D.C_Passage H' o F' (Uw32.step p (.places b m)).1 → Kp H H' F F' → Q (.int (Uw32.step p (.places b m)).2.v) H'
theorem ok_Passage_places (T : Txt K mg D) : FnOk P w K mg base CX0 2 D.f_Passage_places D.d_Passage_places ["self", "boat", "mark"] (sp_places D) := by
  refine T.F_Passage_places.ok sc_Passage_places (fun vs H Q E h => ?_) (fun cdv A outer s H vs Q E hr h => ?_)
  · obtain ⟨o, F, p, b, m, rfl, _⟩ := h
    rfl
  · obtain ⟨o, F, p, b, m, rfl, hp, g, k⟩ := h
    have hu := hu_of hr
    have cl := T.cl_Passage
    obtain ⟨dx, sh, wr, sr, sm, sl, eF, ho, hsh, hwr, hsr, hsm, ⟨xs, hsl, hxs⟩, d1, d2, d3⟩ := hp.ex
    refine ⟨_, (pss_cons (ps_if (PW.pt (pw_or (pt_not (pt_val (pe_meth (pv 0) T.cl_Passage T.m_Passage_has_cell (ok_Passage_has_cell T) (hr.mono (by decide)) T.b_Passage_has_cell .nil pass0 (pa_cons (pv 1) pa_nil)))) (pw_or1 (pt_not (pt_val (pe_meth (pv 0) T.cl_Passage T.m_Passage_has_cell (ok_Passage_has_cell T) (hr.mono (by decide)) T.b_Passage_has_cell .nil pass0 (pa_cons (pv 2) pa_nil)))))))
  (pss_one (ps_ret (pe_gc (by rfl) T.c_NO_SUCH_CELL)))
  pss_nil)
 (pss_cons (ps_if (PW.pt (pw_or (pt_cmp (pc_din hu (pv 1) (pe_fld (pv 0) rfl))) (pw_or1 (pt_cmp (pc_din hu (pv 2) (pe_fld (pv 0) rfl))))))
  (pss_one (ps_ret (pe_gc (by rfl) T.c_CELL_TAKEN)))
  pss_nil)
 (pss_cons (ps_fld (pv 0) (pv 1) rfl)
 (pss_cons (ps_fld (pv 0) (pv 2) rfl)
 (pss_one (ps_ret pe_int)))))), ?_⟩
    rw [Pm.step_places] at k
    refine (rdM rfl ho rfl (rdV rfl ⟨o, F, p, b, rfl, hp, g, _, rfl, ?_⟩))
    by_cases q : p.water.cells ≤ b
    · rw [if_pos (Or.inl q)] at k
      rw [decide_eq_false (by omega)]
      exact iteT (iteT (k H F hp (Kp.refl _ _)))
    · rw [decide_eq_true (by omega)]
      refine iteF (rdM rfl ho rfl (rdV rfl ⟨o, F, p, m, rfl, hp, g, _, rfl, ?_⟩))
      by_cases q2 : p.water.cells ≤ m
      · rw [if_pos (Or.inr q2)] at k
        rw [decide_eq_false (by omega)]
        exact iteT (k H F hp (Kp.refl _ _))
      · rw [if_neg (fun z => z.elim q q2)] at k
        rw [decide_eq_true (by omega)]
        refine iteF ⟨_, rfl, rdF rfl ho cl T.n_Passage_shoals lk_shoals ⟨sh, _, rfl, DGet.k (k := Sum.inl (b : Int)) hsh, _, rfl, ?_⟩⟩
        rw [shk_val]
        by_cases hs : b ∈ p.water.shoals
        · rw [if_pos (Or.inl hs)] at k
          rw [decide_eq_true hs]
          exact iteT (iteT (k H F hp (Kp.refl _ _)))
        · rw [decide_eq_false hs]
          refine iteF ⟨_, rfl, rdF rfl ho cl T.n_Passage_shoals lk_shoals ⟨sh, _, rfl, DGet.k (k := Sum.inl (m : Int)) hsh, _, rfl, ?_⟩⟩
          rw [shk_val]
          by_cases hs2 : m ∈ p.water.shoals
          · rw [if_pos (Or.inr hs2)] at k
            rw [decide_eq_true hs2]
            exact iteT (k H F hp (Kp.refl _ _))
          · rw [if_neg (fun z => z.elim hs hs2)] at k
            rw [decide_eq_false hs2]
            refine iteF ⟨_, rfl, _, rfl, o, _, dx, _, rfl, ho, cl, T.n_Passage_boat_cell, (by rw [pf_len]; decide), ?_⟩
            rw [pf_boat_cell]
            refine ⟨_, rfl, _, rfl, o, _, dx, _, rfl, upd_same, cl, T.n_Passage_mark_cell, (by rw [pf_len]; decide), ?_⟩
            rw [pf_mark_cell, upd_upd]
            have keep : ∀ {c : Addr} {v : HO} {u : HO}, H c = some v → c ≠ o → (upd H o u) c = some v := fun hb nb => by rw [upd_ne nb]; exact hb
            have nk : ∀ {c : Addr} {ys : List V}, H c = some (.lst ys) → c ≠ o := fun h => ne_of h ho (by intro z; cases z)
            refine k _ F ⟨dx, sh, wr, sr, sm, sl, eF, upd_same, keep hsh (ne_of hsh ho (by intro z; cases z)), keep hwr (nk hwr), keep hsr (nk hsr), keep hsm (nk hsm), ⟨xs, keep hsl (nk hsl), hxs.keep fun a ys h => keep h (ne_of h ho (by intro z; cases z))⟩, d1, d2, d3⟩ ⟨fun c hc => .inl hc, fun c u hc hF => ?_⟩
            exact keep hc fun z => hF (by rw [z]; exact hp.mem)
noncomputable def sp_change (D : Adr) : Sp := fun vs H Q _ => ∃ (o : Addr) (F : List Addr) (p : Pm.Pas) (n : Nat), vs = [.ref o, .int n] ∧ PasAt D.C_Passage H o F p ∧
  ∀ H' F', PasAt D.C_Passage H' o F' (Uw32.step p (.change n)).1 → Kp H H' F F' → Q (.int (Uw32.step p (.change n)).2.v) H'
theorem ok_Passage_change (T : Txt K mg D) : FnOk P w K mg base CX0 1 D.f_Passage_change D.d_Passage_change ["self", "minutes"] (sp_change D) := by
  refine T.F_Passage_change.ok sc_Passage_change (fun vs H Q E h => ?_) (fun cdv A outer s H vs Q E hr h => ?_)
  · obtain ⟨o, F, p, n, rfl, _⟩ := h
    rfl
  · obtain ⟨o, F, p, n, rfl, hp, k⟩ := h
    have cl := T.cl_Passage
    obtain ⟨dx, sh, wr, sr, sm, sl, eF, ho, hsh, hwr, hsr, hsm, ⟨xs, hsl, hxs⟩, d1, d2, d3⟩ := hp.ex
    refine ⟨_, (pss_cons (ps_if (pt_cmpR op_gt (pv 1) (pe_gc (by rfl) T.c_MOST_MINUTES) (nomark _))
  (pss_one (ps_ret (pe_gc (by rfl) T.c_OUT_OF_BOUNDS)))
  pss_nil)
 (pss_cons (ps_fld (pv 0) (pv 1) rfl)
 (pss_one (ps_ret pe_int)))), ?_⟩
    rw [Pm.step_change] at k
    refine (rdV rfl (rdO ⟨_, rfl, ?_⟩))
    by_cases q : 9 < n
    · rw [if_pos q] at k
      rw [decide_eq_true (by omega)]
      exact iteT (k H F hp (Kp.refl _ _))
    · rw [if_neg q] at k
      rw [decide_eq_false (by omega)]
      refine iteF ⟨_, rfl, _, rfl, o, _, dx, _, rfl, ho, cl, T.n_Passage_change_minutes, (by rw [pf_len]; decide), ?_⟩
      rw [pf_change_minutes]
      have keep : ∀ {c : Addr} {v : HO} {u : HO}, H c = some v → c ≠ o → (upd H o u) c = some v := fun hb nb => by rw [upd_ne nb]; exact hb
      have nk : ∀ {c : Addr} {ys : List V}, H c = some (.lst ys) → c ≠ o := fun h => ne_of h ho (by intro z; cases z)
      refine k _ F ⟨dx, sh, wr, sr, sm, sl, eF, upd_same, keep hsh (ne_of hsh ho (by intro z; cases z)), keep hwr (nk hwr), keep hsr (nk hsr), keep hsm (nk hsm), ⟨xs, keep hsl (nk hsl), hxs.keep fun a ys h => keep h (ne_of h ho (by intro z; cases z))⟩, d1, d2, d3⟩ ⟨fun c hc => .inl hc, fun c u hc hF => ?_⟩
      exact keep hc fun z => hF (by rw [z]; exact hp.mem)
theorem Sls.snoc {H : Hp} {ts : List Addr} {xs : List Uw29.Sail} {a : Addr} {x : Uw29.Sail} (h : Sls H ts xs) (ha : H a = some (.tup (sv x))) : Sls H (ts ++ [a]) (xs ++ [x]) := by
  refine ⟨by rw [List.length_append, List.length_append, h.len]; rfl, fun i b hb => ?_⟩
  by_cases hi : i < ts.length
  · rw [List.getElem?_append_left hi] at hb
    rw [List.getElem?_append_left (by rw [← h.len]; exact hi)]
    exact h.get i b hb
  · rw [List.getElem?_append_right (by omega)] at hb
    rw [List.getElem?_append_right (by rw [← h.len]; omega), ← h.len]
    cases e : i - ts.length with
    | zero =>
      rw [e] at hb
      have hb : a = b := Option.some.inj hb
      exact ⟨x, rfl, hb ▸ ha⟩
    | succ j => rw [e] at hb; simp at hb
noncomputable def sp_sail (D : Adr) : Sp := fun vs H Q _ => ∃ (o : Addr) (F : List Addr) (p : Pm.Pas) (x : Uw29.Sail), vs = [.ref o, .int x.lo, .int x.hi, .int x.cost] ∧ PasAt D.C_Passage H o F p ∧ Pm.Good p ∧
  ∀ H' F', PasAt D.C_Passage H' o F' (Uw32.step p (.sail x)).1 → Kp H H' F F' → Q (.int (Uw32.step p (.sail x)).2.v) H'
theorem ok_Passage_sail (T : Txt K mg D) : FnOk P w K mg base CX0 1 D.f_Passage_sail D.d_Passage_sail ["self", "least", "greatest", "slow"] (sp_sail D) := by
  refine T.F_Passage_sail.ok sc_Passage_sail (fun vs H Q E h => ?_) (fun cdv A outer s H vs Q E hr h => ?_)
  · obtain ⟨o, F, p, x, rfl, _⟩ := h
    rfl
  · obtain ⟨o, F, p, x, rfl, hp, g, k⟩ := h
    have cl := T.cl_Passage
    obtain ⟨dx, sh, wr, sr, sm, sl, eF, ho, hsh, hwr, hsr, hsm, ⟨xs, hsl, hxs⟩, d1, d2, d3⟩ := hp.ex
    refine ⟨_, (pss_cons (ps_if (PW.pt (pw_or (pt_cmpR op_gt (pv 2) (pe_gc (by rfl) T.c_GREATEST_STRENGTH) (nomark _)) (pw_or (pt_cmpR op_gt (pv 1) (pv 2) (nomark _)) (pw_or1 (pt_cmpR op_gt (pv 3) (pe_gc (by rfl) T.c_MOST_MINUTES) (nomark _))))))
  (pss_one (ps_ret (pe_gc (by rfl) T.c_OUT_OF_BOUNDS)))
  pss_nil)
 (pss_cons (ps_if (pt_cmpR op_eq (pe_callB call_len_seq (by rfl) T.z_len bt_len (pa_cons (pe_fld (pv 0) rfl) pa_nil)) (pe_gc (by rfl) T.c_MOST_SAILS) (nomark _))
  (pss_one (ps_ret (pe_gc (by rfl) T.c_SAILS_FULL)))
  pss_nil)
 (pss_cons (ps_expr (pe_bm PySem.F.plainAttrs_list PySem.F.slot_list_append PySem.F.type_list_append mt_append (pe_fld (pv 0) rfl) (pa_cons (pe_tup (pa_cons (pv 1) (pa_cons (pv 2) (pa_cons (pv 3) pa_nil)))) pa_nil)))
 (pss_one (ps_ret (pe_op op_sub (pe_callB call_len_seq (by rfl) T.z_len bt_len (pa_cons (pe_fld (pv 0) rfl) pa_nil)) pe_int)))))), ?_⟩
    rw [Pm.step_sail] at k
    have no : (40 < x.hi ∨ x.hi < x.lo ∨ 9 < x.cost) → Q (.int (-1)) H := fun q => by
      rw [if_pos q] at k
      exact k H F hp (Kp.refl _ _)
    refine (rdV rfl (rdO ⟨_, rfl, ite2 (fun q => ?_) (fun q => ?_)⟩))
    · have q := of_decide_eq_true q
      exact iteT (no (by omega))
    have q1 : ¬ 40 < x.hi := fun z => q (decide_eq_true (by omega))
    refine (rdV rfl (rdV rfl (rdO ⟨_, rfl, ite2 (fun q => ?_) (fun q => ?_)⟩)))
    · have q := of_decide_eq_true q
      exact iteT (no (by omega))
    have q2 : ¬ x.hi < x.lo := fun z => q (decide_eq_true (by omega))
    refine (rdV rfl (rdO ⟨_, rfl, ite2 (fun q => ?_) (fun q => ?_)⟩))
    · have q := of_decide_eq_true q
      exact no (by omega)
    have q3 : ¬ 9 < x.cost := fun z => q (decide_eq_true (by omega))
    rw [if_neg (by omega)] at k
    refine (rdF rfl ho cl T.n_Passage_sails lk_sails ⟨sl, _, rfl, .inl (SqL.of hsl), rfl, _, rfl, ?_⟩)
    have el : (xs.map V.ref).length = p.sails.length := by rw [List.length_map, hxs.len]
    have h3 := g.sn
    rw [el]
    by_cases q : 3 ≤ p.sails.length
    · rw [if_pos q] at k
      rw [decide_eq_true (by have : p.sails.length = 3 := by omega
                             rw [this]; rfl)]
      exact iteT (k H F hp (Kp.refl _ _))
    · rw [if_neg q] at k
      rw [decide_eq_false (fun z => by have := V.int.inj z; omega)]
      refine iteF ⟨_, rfl, o, _, dx, _, _, rfl, ho, cl, T.n_Passage_sails, lk_sails, ?_⟩
      refine ⟨.inl ⟨rfl, _, SqL.of hsl⟩, rdV rfl (rdV rfl (rdV rfl ⟨small1 (by show 3 ≤ 1000; decide), fun t ht => ?_⟩))⟩
      have no' : t ≠ o := fun z => by rw [z, ho] at ht; cases ht
      have nsl : sl ≠ t := ne_of_none hsl ht
      have nso : sl ≠ o := ne_of hsl ho (by intro z; cases z)
      refine ⟨sl, _, _, rfl, rfl, (by rw [upd_ne nsl]; exact hsl), small1000 (by rw [el]; omega), ?_⟩
      have keep : ∀ {c : Addr} {v : HO} {u w : HO}, H c = some v → c ≠ sl → (upd (upd H t u) sl w) c = some v := fun hb nb => by rw [upd_ne nb, upd_ne (ne_of_none hb ht)]; exact hb
      refine (rdF rfl (keep ho nso.symm) cl T.n_Passage_sails lk_sails ⟨sl, _, rfl, .inl (SqL.of upd_same), rdO ?_⟩)
      have ev : (((xs.map V.ref ++ [V.ref t]).length : Nat) : Int) - 1 = ((p.sails.length : Nat) : Int) := by
        rw [List.length_append, el, List.length_singleton]
        omega
      show Q (.int ((((xs.map V.ref ++ [V.ref t]).length : Nat) : Int) - 1)) _
      rw [ev]
      refine k _ F ⟨dx, sh, wr, sr, sm, sl, eF, keep ho nso.symm, keep hsh (ne_of hsh hsl (by intro z; cases z)), keep hwr (fun z => d1 z.symm), keep hsr (fun z => d2 z.symm), keep hsm (fun z => d3 z.symm), ⟨xs ++ [t], by rw [upd_same, List.map_append]; rfl, ?_⟩, d1, d2, d3⟩ ⟨fun c hc => .inl hc, fun c u hc hF => ?_⟩
      · exact Sls.snoc (hxs.keep fun a ys h => keep h (ne_of h hsl (by intro z; cases z))) (by rw [upd_ne nsl.symm, upd_same]; rfl)
      · exact keep hc fun z => hF (by rw [z, eF]; simp)
end
end Pa

end
section
set_option Elab.async false
set_option linter.all false
set_option maxRecDepth 100000
set_option maxHeartbeats 2000000
namespace Pa
open PySem PySem.Spec PyProof.Rows L2
section
variable {K : PySem.W.Frag} {H : Hp} {a b C dx : Addr} {xs : List V} {u : HO} {fs : List (Str × V)}
theorem sq_ins (h : SqL K H a xs) (hb : H b = some (.ins C dx fs)) : SqL K (upd H b u) a xs := by
  rcases h with (h | ⟨o, h⟩) | h
  · exact .inl (.inl (by rw [upd_ne (ne_of h hb (by intro z; cases z))]; exact h))
  · exact .inl (.inr ⟨o, by rw [upd_ne (ne_of h hb (by intro z; cases z))]; exact h⟩)
  · exact .inr h
theorem sq_new (h : SqL K H a xs) (hb : H b = none) : SqL K (upd H b u) a xs := by
  rcases h with (h | ⟨o, h⟩) | h
  · exact .inl (.inl (by rw [upd_ne (ne_of_none h hb)]; exact h))
  · exact .inl (.inr ⟨o, by rw [upd_ne (ne_of_none h hb)]; exact h⟩)
  · exact .inr h
end
section
variable {P : Program} {w : World} {K : PySem.W.Frag} {mg : Str → Option Value} {base : Heap} {D : Adr}
noncomputable def sp_winds (K : PySem.W.Frag) (D : Adr) : Sp := fun vs H Q _ => ∃ (o a : Addr) (F : List Addr) (p : Pm.Pas) (l : List Nat), vs = [.ref o, .ref a] ∧ PasAt D.C_Passage H o F p ∧ SqL K H a (nv l) ∧
  ∀ H' F', PasAt D.C_Passage H' o F' (Uw32.step p (.winds l)).1 → Kp H H' F F' → Q (.int (Uw32.step p (.winds l)).2.v) H'
theorem ok_Passage_winds (T : Txt K mg D) : FnOk P w K mg base CX0 2 D.f_Passage_winds D.d_Passage_winds ["self", "row"] (sp_winds K D) := by
  refine T.F_Passage_winds.ok sc_Passage_winds (fun vs H Q E h => ?_) (fun cdv A outer s H vs Q E hr h => ?_)
  · obtain ⟨o, a, F, p, l, rfl, _⟩ := h
    rfl
  · obtain ⟨o, a, F, p, l, rfl, hp, hl, k⟩ := h
    have cl := T.cl_Passage
    obtain ⟨dx, sh, wr, sr, sm, sl, eF, ho, hsh, hwr, hsr, hsm, ⟨xs, hsl, hxs⟩, d1, d2, d3⟩ := hp.ex
    refine ⟨_, (pss_cons (ps_if (pt_not (pt_val (pe_call (ok_is_row T) (hr.mono (by decide)) (by rfl) T.g_is_row T.F_is_row.kp T.b_is_row .nil pass0 (pa_cons (pv 1) (pa_cons (pe_op op_sub (pe_gc (by rfl) T.c_EIGHTHS) pe_int) pa_nil)))))
  (pss_one (ps_ret (pe_gc (by rfl) T.c_OUT_OF_BOUNDS)))
  pss_nil)
 (pss_cons (ps_fld (pv 0) (pe_callTy call_list_of (by rfl) T.z_list bt_list (pa_cons (pv 1) pa_nil)) rfl)
 (pss_one (ps_ret (pe_callB call_len_seq (by rfl) T.z_len bt_len (pa_cons (pv 1) pa_nil)))))), ?_⟩
    rw [Pm.step_winds] at k
    refine (rdV rfl (rdO ⟨a, l, 7, rfl, hl, _, rfl, ?_⟩))
    cases h1 : Pm.isRow l 7 with
    | false =>
      rw [if_neg (by rw [h1]; simp)] at k
      exact iteT (k H F hp (Kp.refl _ _))
    | true =>
      rw [if_pos h1] at k
      refine iteF (rdV rfl ⟨a, nv l, rfl, .inl hl, fun q hq => ?_⟩)
      have ho' : (upd H q (.lst (nv l))) o = some (.ins D.C_Passage dx (flds p.water.wide p.water.high sh wr sr sm p.water.turn p.change sl p.water.boat p.water.mark)) := by rw [upd_ne (ne_of_none ho hq)]; exact ho
      refine (rdV rfl ⟨o, _, dx, _, rfl, ho', cl, T.n_Passage_wind_row, (by rw [pf_len]; decide), ?_⟩)
      rw [pf_wind_row]
      refine (rdV rfl ⟨a, nv l, rfl, .inl (sq_ins (sq_new hl hq) ho'), ?_⟩)
      rw [nv_length]
      have n0 : q ≠ o := fun z => by rw [z, ho] at hq; cases hq
      have keep : ∀ {b : Addr} {v : HO}, H b = some v → b ≠ o → (upd (upd H q (.lst (nv l))) o (.ins D.C_Passage dx (flds p.water.wide p.water.high sh q sr sm p.water.turn p.change sl p.water.boat p.water.mark))) b = some v := fun hb nb => by
        rw [upd_ne nb, upd_ne (ne_of_none hb hq)]; exact hb
      have nk : ∀ {b : Addr} {ys : List V}, H b = some (.lst ys) → b ≠ o := fun h => ne_of h ho (by intro z; cases z)
      refine k _ [o, sh, q, sr, sm, sl] ⟨dx, sh, q, sr, sm, sl, rfl, upd_same, keep hsh (ne_of hsh ho (by intro z; cases z)), (by rw [upd_ne n0, upd_same]), keep hsr (nk hsr), keep hsm (nk hsm), ⟨xs, keep hsl (nk hsl), hxs.keep fun a ys h => keep h (ne_of h ho (by intro z; cases z))⟩, ne_of_none hsl hq, d2, d3⟩ ⟨fun b hb => ?_, fun b u hb hF => ?_⟩
      · subst eF
        simp only [List.mem_cons, List.not_mem_nil, or_false] at hb ⊢
        rcases hb with rfl | rfl | rfl | rfl | rfl | rfl <;> simp [hq]
      · exact keep hb fun z => hF (by rw [z]; exact hp.mem)
noncomputable def sp_strong (K : PySem.W.Frag) (D : Adr) : Sp := fun vs H Q _ => ∃ (o a : Addr) (F : List Addr) (p : Pm.Pas) (l : List Nat), vs = [.ref o, .ref a] ∧ PasAt D.C_Passage H o F p ∧ SqL K H a (nv l) ∧
  ∀ H' F', PasAt D.C_Passage H' o F' (Uw32.step p (.strong l)).1 → Kp H H' F F' → Q (.int (Uw32.step p (.strong l)).2.v) H'
theorem ok_Passage_strong (T : Txt K mg D) : FnOk P w K mg base CX0 2 D.f_Passage_strong D.d_Passage_strong ["self", "row"] (sp_strong K D) := by
  refine T.F_Passage_strong.ok sc_Passage_strong (fun vs H Q E h => ?_) (fun cdv A outer s H vs Q E hr h => ?_)
  · obtain ⟨o, a, F, p, l, rfl, _⟩ := h
    rfl
  · obtain ⟨o, a, F, p, l, rfl, hp, hl, k⟩ := h
    have cl := T.cl_Passage
    obtain ⟨dx, sh, wr, sr, sm, sl, eF, ho, hsh, hwr, hsr, hsm, ⟨xs, hsl, hxs⟩, d1, d2, d3⟩ := hp.ex
    refine ⟨_, (pss_cons (ps_if (pt_not (pt_val (pe_call (ok_is_row T) (hr.mono (by decide)) (by rfl) T.g_is_row T.F_is_row.kp T.b_is_row .nil pass0 (pa_cons (pv 1) (pa_cons (pe_gc (by rfl) T.c_GREATEST_STRENGTH) pa_nil)))))
  (pss_one (ps_ret (pe_gc (by rfl) T.c_OUT_OF_BOUNDS)))
  pss_nil)
 (pss_cons (ps_fld (pv 0) (pe_callTy call_list_of (by rfl) T.z_list bt_list (pa_cons (pv 1) pa_nil)) rfl)
 (pss_one (ps_ret (pe_callB call_len_seq (by rfl) T.z_len bt_len (pa_cons (pv 1) pa_nil)))))), ?_⟩
    rw [Pm.step_strong] at k
    refine (rdV rfl ⟨a, l, 40, rfl, hl, _, rfl, ?_⟩)
    cases h1 : Pm.isRow l 40 with
    | false =>
      rw [if_neg (by rw [h1]; simp)] at k
      exact iteT (k H F hp (Kp.refl _ _))
    | true =>
      rw [if_pos h1] at k
      refine iteF (rdV rfl ⟨a, nv l, rfl, .inl hl, fun q hq => ?_⟩)
      have ho' : (upd H q (.lst (nv l))) o = some (.ins D.C_Passage dx (flds p.water.wide p.water.high sh wr sr sm p.water.turn p.change sl p.water.boat p.water.mark)) := by rw [upd_ne (ne_of_none ho hq)]; exact ho
      refine (rdV rfl ⟨o, _, dx, _, rfl, ho', cl, T.n_Passage_strength_row, (by rw [pf_len]; decide), ?_⟩)
      rw [pf_strength_row]
      refine (rdV rfl ⟨a, nv l, rfl, .inl (sq_ins (sq_new hl hq) ho'), ?_⟩)
      rw [nv_length]
      have n0 : q ≠ o := fun z => by rw [z, ho] at hq; cases hq
      have keep : ∀ {b : Addr} {v : HO}, H b = some v → b ≠ o → (upd (upd H q (.lst (nv l))) o (.ins D.C_Passage dx (flds p.water.wide p.water.high sh wr q sm p.water.turn p.change sl p.water.boat p.water.mark))) b = some v := fun hb nb => by
        rw [upd_ne nb, upd_ne (ne_of_none hb hq)]; exact hb
      have nk : ∀ {b : Addr} {ys : List V}, H b = some (.lst ys) → b ≠ o := fun h => ne_of h ho (by intro z; cases z)
      refine k _ [o, sh, wr, q, sm, sl] ⟨dx, sh, wr, q, sm, sl, rfl, upd_same, keep hsh (ne_of hsh ho (by intro z; cases z)), keep hwr (nk hwr), (by rw [upd_ne n0, upd_same]), keep hsm (nk hsm), ⟨xs, keep hsl (nk hsl), hxs.keep fun a ys h => keep h (ne_of h ho (by intro z; cases z))⟩, d1, ne_of_none hsl hq, d3⟩ ⟨fun b hb => ?_, fun b u hb hF => ?_⟩
      · subst eF
        simp only [List.mem_cons, List.not_mem_nil, or_false] at hb ⊢
        rcases hb with rfl | rfl | rfl | rfl | rfl | rfl <;> simp [hq]
      · exact keep hb fun z => hF (by rw [z]; exact hp.mem)
noncomputable def sp_boat (K : PySem.W.Frag) (D : Adr) : Sp := fun vs H Q _ => ∃ (o a : Addr) (F : List Addr) (p : Pm.Pas) (x1 x2 x3 x4 t : Nat), vs = [.ref o, .ref a, .int t] ∧ PasAt D.C_Passage H o F p ∧ SqL K H a (nv [x1, x2, x3, x4]) ∧
  ∀ H' F', PasAt D.C_Passage H' o F' (Uw32.step p (.boat x1 x2 x3 x4 t)).1 → Kp H H' F F' → Q (.int (Uw32.step p (.boat x1 x2 x3 x4 t)).2.v) H'
theorem ok_Passage_boat (T : Txt K mg D) : FnOk P w K mg base CX0 2 D.f_Passage_boat D.d_Passage_boat ["self", "steps", "turn"] (sp_boat K D) := by
  refine T.F_Passage_boat.ok sc_Passage_boat (fun vs H Q E h => ?_) (fun cdv A outer s H vs Q E hr h => ?_)
  · obtain ⟨o, a, F, p, x1, x2, x3, x4, t, rfl, _⟩ := h
    rfl
  · obtain ⟨o, a, F, p, x1, x2, x3, x4, t, rfl, hp, hl, k⟩ := h
    have cl := T.cl_Passage
    obtain ⟨dx, sh, wr, sr, sm, sl, eF, ho, hsh, hwr, hsr, hsm, ⟨xs, hsl, hxs⟩, d1, d2, d3⟩ := hp.ex
    refine ⟨_, (pss_cons (ps_if (PW.pt (pw_or (pt_cmpR op_lt (pe_callB (call_minL rfl) (by rfl) T.z_min bt_min (pa_cons (pv 1) pa_nil)) pe_int (nomark _)) (pw_or (pt_cmpR op_gt (pe_callB (call_maxL rfl) (by rfl) T.z_max bt_max (pa_cons (pv 1) pa_nil)) (pe_gc (by rfl) T.c_MOST_MINUTES) (nomark _)) (pw_or1 (pt_cmpR op_gt (pv 2) (pe_gc (by rfl) T.c_MOST_MINUTES) (nomark _))))))
  (pss_one (ps_ret (pe_gc (by rfl) T.c_OUT_OF_BOUNDS)))
  pss_nil)
 (pss_cons (ps_fld (pv 0) (pe_callTy call_list_of (by rfl) T.z_list bt_list (pa_cons (pv 1) pa_nil)) rfl)
 (pss_cons (ps_fld (pv 0) (pv 2) rfl)
 (pss_one (ps_ret pe_int))))), ?_⟩
    rw [Pm.step_boat] at k
    have hi : SqL K H a ((Pm.intsN [x1, x2, x3, x4]).map V.int) := by rw [← nv_map]; exact hl
    have no : ¬ Pm.isBoat x1 x2 x3 x4 t = true → Q (.int (-1)) H := fun q => by
      rw [if_neg q] at k
      exact k H F hp (Kp.refl _ _)
    refine (rdV rfl ⟨a, _, rfl, hi, by show 0 < 4; decide, fun m hm hmin => (rdO ⟨_, rfl, ?_⟩)⟩)
    have ex : ∀ z : Int, z ∈ Pm.intsN [x1, x2, x3, x4] ↔ z = x1 ∨ z = x2 ∨ z = x3 ∨ z = x4 := fun z => by
      unfold Pm.intsN
      simp
    have m1 := hmin x1 ((ex _).mpr (.inl rfl))
    have m2 := hmin x2 ((ex _).mpr (.inr (.inl rfl)))
    have m3 := hmin x3 ((ex _).mpr (.inr (.inr (.inl rfl))))
    have m4 := hmin x4 ((ex _).mpr (.inr (.inr (.inr rfl))))
    have hm := (ex _).mp hm
    refine ite2 (fun q => ?_) (fun q => ?_)
    · have q := of_decide_eq_true q
      refine iteT (no ?_)
      rw [Pm.isBoat_iff]
      omega
    · have q : ¬ m < 1 := fun z => q (decide_eq_true z)
      refine (rdV rfl ⟨a, _, rfl, hi, by show 0 < 4; decide, fun M hM hmax => (rdO ⟨_, rfl, ?_⟩)⟩)
      have M1 := hmax x1 ((ex _).mpr (.inl rfl))
      have M2 := hmax x2 ((ex _).mpr (.inr (.inl rfl)))
      have M3 := hmax x3 ((ex _).mpr (.inr (.inr (.inl rfl))))
      have M4 := hmax x4 ((ex _).mpr (.inr (.inr (.inr rfl))))
      have hM := (ex _).mp hM
      refine ite2 (fun q2 => ?_) (fun q2 => ?_)
      · have q2 := of_decide_eq_true q2
        refine iteT (no ?_)
        rw [Pm.isBoat_iff]
        omega
      · have q2 : ¬ 9 < M := fun z => q2 (decide_eq_true z)
        refine (rdV rfl (rdO ⟨_, rfl, ?_⟩))
        refine ite2 (fun q3 => ?_) (fun q3 => ?_)
        · have q3 : (9 : Int) < (t : Int) := of_decide_eq_true q3
          refine no ?_
          rw [Pm.isBoat_iff]
          omega
        · have q3 : ¬ (9 : Int) < (t : Int) := fun z => q3 (decide_eq_true z)
          rw [if_pos (by rw [Pm.isBoat_iff]; omega)] at k
          refine (rdV rfl ⟨a, _, rfl, .inl hl, fun q hq => ?_⟩)
          have ho' : ∀ u, (upd H q u) o = some (.ins D.C_Passage dx (flds p.water.wide p.water.high sh wr sr sm p.water.turn p.change sl p.water.boat p.water.mark)) := fun u => by rw [upd_ne (ne_of_none ho hq)]; exact ho
          refine (rdV rfl ⟨o, _, dx, _, rfl, ho' _, cl, T.n_Passage_step_minutes, (by rw [pf_len]; decide), ?_⟩)
          rw [pf_step_minutes]
          refine ⟨_, rfl, _, rfl, o, _, dx, _, rfl, upd_same, cl, T.n_Passage_turn_minutes, (by rw [pf_len]; decide), ?_⟩
          rw [pf_turn_minutes, upd_upd]
          have n0 : q ≠ o := fun z => by rw [z, ho] at hq; cases hq
          have keep : ∀ {b : Addr} {v : HO}, H b = some v → b ≠ o → (upd (upd H q (.lst (nv [x1, x2, x3, x4]))) o (.ins D.C_Passage dx (flds p.water.wide p.water.high sh wr sr q t p.change sl p.water.boat p.water.mark))) b = some v := fun hb nb => by
            rw [upd_ne nb, upd_ne (ne_of_none hb hq)]; exact hb
          have nk : ∀ {b : Addr} {ys : List V}, H b = some (.lst ys) → b ≠ o := fun h => ne_of h ho (by intro z; cases z)
          refine k _ [o, sh, wr, sr, q, sl] ⟨dx, sh, wr, sr, q, sl, rfl, upd_same, keep hsh (ne_of hsh ho (by intro z; cases z)), keep hwr (nk hwr), keep hsr (nk hsr), (by rw [upd_ne n0, upd_same]), ⟨xs, keep hsl (nk hsl), hxs.keep fun a ys h => keep h (ne_of h ho (by intro z; cases z))⟩, d1, d2, ne_of_none hsl hq⟩ ⟨fun b hb => ?_, fun b u hb hF => ?_⟩
          · subst eF
            simp only [List.mem_cons, List.not_mem_nil, or_false] at hb ⊢
            rcases hb with rfl | rfl | rfl | rfl | rfl | rfl <;> simp [hq]
          · exact keep hb fun z => hF (by rw [z]; exact hp.mem)
end
end Pa

end
section
set_option Elab.async false
set_option linter.all false
set_option maxRecDepth 100000
set_option maxHeartbeats 2000000
namespace Pa
open PySem PySem.Spec PyProof.Rows L2
/-- a step's attributes -/
noncomputable def sfl (h i sd k : Int) : List (Str × V) := [("heading", .int h), ("with_sail", .int i), ("side", .int sd), ("minutes", .int k)]
section
variable {h i sd k : Int}
theorem lk_heading : (sfl h i sd k).lookup ("heading" : Str) = some (.int h) := by rfl
theorem lk_with_sail : (sfl h i sd k).lookup ("with_sail" : Str) = some (.int i) := by rfl
theorem lk_side : (sfl h i sd k).lookup ("side" : Str) = some (.int sd) := by rfl
theorem lk_minutes : (sfl h i sd k).lookup ("minutes" : Str) = some (.int k) := by rfl
end
/-- a step stands at r -/
structure StepAt (C : Addr) (H : Hp) (r : Addr) (h i sd k : Nat) : Prop where
  ex : ∃ dx, H r = some (.ins C dx (sfl h i sd k))
theorem StepAt.same {C : Addr} {H H' : Hp} {r : Addr} {h i sd k : Nat} (x : StepAt C H r h i sd k) (s : Same H H') : StepAt C H' r h i sd k := let ⟨dx, e⟩ := x.ex; ⟨dx, s _ _ e⟩
theorem PasAt.same {C : Addr} {H H' : Hp} {o : Addr} {F : List Addr} {p : Pm.Pas} (x : PasAt C H o F p) (s : Same H H') : PasAt C H' o F p := by
  obtain ⟨dx, sh, wr, sr, sm, sl, eF, ho, hsh, hwr, hsr, hsm, ⟨xs, hsl, hxs⟩, d1, d2, d3⟩ := x.ex
  exact ⟨dx, sh, wr, sr, sm, sl, eF, s _ _ ho, s _ _ hsh, s _ _ hwr, s _ _ hsr, s _ _ hsm, ⟨xs, s _ _ hsl, hxs.keep fun a ys h => s _ _ h⟩, d1, d2, d3⟩
theorem iteT' {b : Bool} {A B : Prop} (e : b = true) (h : A) : if b = true then A else B := by rw [if_pos e]; exact h
theorem iteF' {b : Bool} {A B : Prop} (e : b = false) (h : B) : if b = true then A else B := by rw [if_neg (by rw [e]; exact Bool.false_ne_true)]; exact h
theorem eight {h : Nat} (h8 : h < 8) : h = 0 ∨ h = 1 ∨ h = 2 ∨ h = 3 ∨ h = 4 ∨ h = 5 ∨ h = 6 ∨ h = 7 := by omega
theorem rt_at {h : Nat} (h8 : h < 8) : atI [V.int 0, .int 1, .int 1, .int 1, .int 0, .int (-1), .int (-1), .int (-1)] (h : Int) = some (.int (Pm.rt h)) := by
  rcases eight h8 with rfl | rfl | rfl | rfl | rfl | rfl | rfl | rfl <;> rfl
theorem dn_at {h : Nat} (h8 : h < 8) : atI [V.int (-1), .int (-1), .int 0, .int 1, .int 1, .int 1, .int 0, .int (-1)] (h : Int) = some (.int (Pm.dn h)) := by
  rcases eight h8 with rfl | rfl | rfl | rfl | rfl | rfl | rfl | rfl <;> rfl
theorem dn_small (h : Nat) : -1 ≤ Pm.dn h ∧ Pm.dn h ≤ 1 := by
  unfold Pm.dn
  split
  · omega
  · split <;> omega
section
variable {P : Program} {w : World} {K : PySem.W.Frag} {mg : Str → Option Value} {base : Heap} {D : Adr}
noncomputable def sp_Step_init (D : Adr) : Sp := fun vs H Q _ => ∃ (r dx : Addr) (h i sd k : Nat), vs = [.ref r, .int h, .int i, .int sd, .int k] ∧ H r = some (.ins D.C_Step dx []) ∧ Q .non (upd H r (.ins D.C_Step dx (sfl h i sd k)))
theorem ok_Step_init (T : Txt K mg D) : FnOk P w K mg base CX0 1 D.f_Step_init D.d_Step_init ["self", "heading", "with_sail", "side", "minutes"] (sp_Step_init D) := by
  refine T.F_Step_init.ok sc_Step_init (fun vs H Q E h => ?_) (fun cdv A outer s H vs Q E hr h => ?_)
  · obtain ⟨r, dx, h, i, sd, k, rfl, _⟩ := h
    rfl
  · obtain ⟨r, dx, h, i, sd, k, rfl, ho, q⟩ := h
    have cl := T.cl_Step
    refine ⟨_, (pss_cons (ps_fld (pv 0) (pv 1) rfl)
 (pss_cons (ps_fld (pv 0) (pv 2) rfl)
 (pss_cons (ps_fld (pv 0) (pv 3) rfl)
 (pss_one (ps_fld (pv 0) (pv 4) rfl))))), ?_⟩
    refine (rdV rfl (rdV rfl ⟨r, _, dx, _, rfl, ho, cl, T.n_Step_heading, by decide, ?_⟩))
    refine ⟨_, rfl, _, rfl, r, _, dx, _, rfl, upd_same, cl, T.n_Step_with_sail, by show 1 < 1000; decide, ?_⟩
    refine ⟨_, rfl, _, rfl, r, _, dx, _, rfl, upd_same, cl, T.n_Step_side, by show 2 < 1000; decide, ?_⟩
    refine ⟨_, rfl, _, rfl, r, _, dx, _, rfl, upd_same, cl, T.n_Step_minutes, by show 3 < 1000; decide, ?_⟩
    rw [upd_upd, upd_upd, upd_upd]
    exact q
noncomputable def sp_turns (D : Adr) : Sp := fun vs H Q _ => ∃ (r : Addr) (h i sd k s : Nat), vs = [.ref r, .int s] ∧ StepAt D.C_Step H r h i sd k ∧ Q (.bl (Pm.tn s sd)) H
theorem ne0 (a b : Nat) : (!decide (V.int (a : Int) = V.int (b : Int))) = (a != b) := by
  rw [decN]
  by_cases h : a = b <;> simp [h]
theorem ok_Step_turns (T : Txt K mg D) : FnOk P w K mg base CX0 1 D.f_Step_turns D.d_Step_turns ["self", "side"] (sp_turns D) := by
  refine T.F_Step_turns.ok sc_Step_turns (fun vs H Q E h => ?_) (fun cdv A outer s H vs Q E hr h => ?_)
  · obtain ⟨r, h, i, sd, k, s, rfl, _⟩ := h
    rfl
  · obtain ⟨r, h, i, sd, k, s', rfl, hs, q⟩ := h
    obtain ⟨dx, hr'⟩ := hs.ex
    have cl := T.cl_Step
    refine ⟨_, (pss_one (ps_ret (pe_and (pe_cmpR op_ne (pv 1) (pe_gc (by rfl) T.c_NO_SIDE) (nomark _)) (pe_and (pe_cmpR op_ne (pe_fld (pv 0) rfl) (pe_gc (by rfl) T.c_NO_SIDE) (nomark _)) (pe_one (pe_cmpR op_ne (pv 1) (pe_fld (pv 0) rfl) (nomark _))))))), ?_⟩
    unfold Pm.tn at q
    refine (rdV rfl ⟨rfl, _, rfl, ?_⟩)
    have e1 := ne0 s' 0
    have e2 := ne0 sd 0
    have e3 := ne0 s' sd
    cases h1 : (s' != 0) with
    | false =>
      rw [h1] at e1 q
      refine iteF' e1 ?_
      exact q
    | true =>
      rw [h1] at e1 q
      refine iteT' e1 (rdF rfl hr' cl T.n_Step_side lk_side ⟨rfl, _, rfl, ?_⟩)
      cases h2 : (sd != 0) with
      | false =>
        rw [h2] at e2 q
        refine iteF' e2 ?_
        exact q
      | true =>
        rw [h2] at e2 q
        refine iteT' e2 (rdV rfl (rdF rfl hr' cl T.n_Step_side lk_side ⟨rfl, ?_⟩))
        show Q (.bl (!decide (V.int (s' : Int) = V.int (sd : Int)))) H
        rw [e3]
        exact q
noncomputable def sdb (s sd : Nat) : Nat := if sd = 0 then s else sd
noncomputable def sp_side_behind (D : Adr) : Sp := fun vs H Q _ => ∃ (r : Addr) (h i sd k s : Nat), vs = [.ref r, .int s] ∧ StepAt D.C_Step H r h i sd k ∧ Q (.int (sdb s sd)) H
theorem ok_Step_side_behind (T : Txt K mg D) : FnOk P w K mg base CX0 1 D.f_Step_side_behind D.d_Step_side_behind ["self", "side"] (sp_side_behind D) := by
  refine T.F_Step_side_behind.ok sc_Step_side_behind (fun vs H Q E h => ?_) (fun cdv A outer s H vs Q E hr h => ?_)
  · obtain ⟨r, h, i, sd, k, s, rfl, _⟩ := h
    rfl
  · obtain ⟨r, h, i, sd, k, s', rfl, hs, q⟩ := h
    obtain ⟨dx, hr'⟩ := hs.ex
    have cl := T.cl_Step
    refine ⟨_, (pss_cons (ps_if (pt_cmpR op_eq (pe_fld (pv 0) rfl) (pe_gc (by rfl) T.c_NO_SIDE) (nomark _))
  (pss_one (ps_ret (pv 1)))
  pss_nil)
 (pss_one (ps_ret (pe_fld (pv 0) rfl)))), ?_⟩
    unfold sdb at q
    refine (rdF rfl hr' cl T.n_Step_side lk_side ⟨rfl, _, rfl, ?_⟩)
    have e := decN sd 0
    by_cases h0 : sd = 0
    · rw [if_pos h0] at q
      rw [decide_eq_true h0] at e
      exact iteT' e (rdV rfl q)
    · rw [if_neg h0] at q
      rw [decide_eq_false h0] at e
      exact iteF' e (rdF rfl hr' cl T.n_Step_side lk_side q)
noncomputable def tv (m c s b : Nat) : List V := [.int m, .int c, .int s, .int b]
noncomputable def sp_first_stand (D : Adr) : Sp := fun vs H Q _ => ∃ (o : Addr) (F : List Addr) (p : Pm.Pas), vs = [.ref o] ∧ PasAt D.C_Passage H o F p ∧ ∀ q, H q = none → Q (.ref q) (upd H q (.tup (tv 0 p.water.boat 0 p.bare)))
theorem ok_Passage_first_stand (T : Txt K mg D) : FnOk P w K mg base CX0 1 D.f_Passage_first_stand D.d_Passage_first_stand ["self"] (sp_first_stand D) := by
  refine T.F_Passage_first_stand.ok sc_Passage_first_stand (fun vs H Q E h => ?_) (fun cdv A outer s H vs Q E hr h => ?_)
  · obtain ⟨o, F, p, rfl, _⟩ := h
    rfl
  · obtain ⟨o, F, p, rfl, hp, k⟩ := h
    have cl := T.cl_Passage
    obtain ⟨dx, sh, wr, sr, sm, sl, eF, ho, hsh, hwr, hsr, hsm, ⟨xs, hsl, hxs⟩, d1, d2, d3⟩ := hp.ex
    refine ⟨_, (pss_one (ps_ret (pe_tup (pa_cons pe_int (pa_cons (pe_fld (pv 0) rfl) (pa_cons (pe_gc (by rfl) T.c_NO_SIDE) (pa_cons (pe_callB call_len_seq (by rfl) T.z_len bt_len (pa_cons (pe_fld (pv 0) rfl) pa_nil)) pa_nil))))))), ?_⟩
    refine (rdF rfl ho cl T.n_Passage_boat_cell lk_boat_cell (rdF rfl ho cl T.n_Passage_sails lk_sails ⟨sl, _, rfl, .inl (SqL.of hsl), small1 (by show 4 ≤ 1000; decide), fun q hq => ?_⟩))
    have e := k q hq
    unfold tv at e
    rw [List.length_map, hxs.len]
    exact e
noncomputable def sp_cell_behind (D : Adr) : Sp := fun vs H Q _ => ∃ (o : Addr) (F : List Addr) (p : Pm.Pas) (c h : Nat), vs = [.ref o, .int c, .int h] ∧ PasAt D.C_Passage H o F p ∧ h < 8 ∧ Q (.int (Pm.cb p c h)) H
theorem ok_Passage_cell_behind (T : Txt K mg D) : FnOk P w K mg base CX0 1 D.f_Passage_cell_behind D.d_Passage_cell_behind ["self", "cell", "heading"] (sp_cell_behind D) := by
  refine T.F_Passage_cell_behind.ok sc_Passage_cell_behind (fun vs H Q E h => ?_) (fun cdv A outer s H vs Q E hr h => ?_)
  · obtain ⟨o, F, p, c, h, rfl, _⟩ := h
    rfl
  · obtain ⟨o, F, p, c, h, rfl, hp, h8, k⟩ := h
    have cl := T.cl_Passage
    obtain ⟨dx, sh, wr, sr, sm, sl, eF, ho, _⟩ := hp.ex
    refine ⟨_, (pss_one (ps_ret (pe_op op_add (pe_op op_add (pv 1) (pe_op op_mul (pe_ix ix_tup (pe_gc (by rfl) T.c_DOWNWARD) (pv 2) (fun _ _ => rfl)) (pe_fld (pv 0) rfl))) (pe_ix ix_tup (pe_gc (by rfl) T.c_RIGHTWARD) (pv 2) (fun _ _ => rfl))))), ?_⟩
    have := dn_small h
    refine (rdV rfl (rdV rfl (rdXT (T.t_DOWNWARD _) (dn_at h8) (rdF rfl ho cl T.n_Passage_wide lk_wide (rdC (.inl ⟨by omega, by omega⟩) (rdO (rdV rfl (rdXT (T.t_RIGHTWARD _) (rt_at h8) (rdO k)))))))))
noncomputable def sp_has_room (D : Adr) : Sp := fun vs H Q _ => ∃ (o : Addr) (F : List Addr) (p : Pm.Pas) (c h : Nat), vs = [.ref o, .int c, .int h] ∧ PasAt D.C_Passage H o F p ∧ Pm.Good p ∧ h < 8 ∧ Q (.bl (p.water.next c h).isSome) H
theorem ok_Passage_has_room (T : Txt K mg D) : FnOk P w K mg base CX0 2 D.f_Passage_has_room D.d_Passage_has_room ["self", "cell", "heading"] (sp_has_room D) := by
  refine T.F_Passage_has_room.ok sc_Passage_has_room (fun vs H Q E h => ?_) (fun cdv A outer s H vs Q E hr h => ?_)
  · obtain ⟨o, F, p, c, h, rfl, _⟩ := h
    rfl
  · obtain ⟨o, F, p, c, h, rfl, hp, g, h8, k⟩ := h
    have cl := T.cl_Passage
    have hu := hu_of hr
    obtain ⟨dx, sh, wr, sr, sm, sl, eF, ho, hsh, _⟩ := hp.ex
    refine ⟨_, (pss_cons (ps_set (i := 3) sc_Passage_has_room.nd rfl (Or.inl rfl) (pe_op op_add (pe_op op_mod (pv 1) (pe_fld (pv 0) rfl)) (pe_ix ix_tup (pe_gc (by rfl) T.c_RIGHTWARD) (pv 2) (fun _ _ => rfl))))
 (pss_cons (ps_set (i := 4) sc_Passage_has_room.nd rfl (Or.inl rfl) (pe_op op_add (pe_op op_fdiv (pv 1) (pe_fld (pv 0) rfl)) (pe_ix ix_tup (pe_gc (by rfl) T.c_DOWNWARD) (pv 2) (fun _ _ => rfl))))
 (pss_cons (ps_if (PW.pt (pw_or (pt_cmpR op_lt (pv 3) pe_int (nomark _)) (pw_or (pt_cmpR op_ge (pv 3) (pe_fld (pv 0) rfl) (nomark _)) (pw_or (pt_cmpR op_lt (pv 4) pe_int (nomark _)) (pw_or1 (pt_cmpR op_ge (pv 4) (pe_fld (pv 0) rfl) (nomark _)))))))
  (pss_one (ps_ret pe_bl))
  pss_nil)
 (pss_one (ps_ret (pe_cmp (pc_dnotin hu (pe_meth (pv 0) T.cl_Passage T.m_Passage_cell_behind (ok_Passage_cell_behind T) (hr.mono (by decide)) T.b_Passage_cell_behind .nil pass0 (pa_cons (pv 1) (pa_cons (pv 2) pa_nil))) (pe_fld (pv 0) rfl)))))))), ?_⟩
    have w2 := g.w2
    have w4 := g.w4
    have no : Pm.off p c h → Q (.bl false) H := fun z => by
      rw [Pm.next_off h8 z] at k
      exact k
    refine (rdV rfl (rdF rfl ho cl T.n_Passage_wide lk_wide (rdC (by omega) (rdV rfl (rdXT (T.t_RIGHTWARD _) (rt_at h8) (rdO ?_))))))
    refine ⟨_, rfl, rdF rfl ho cl T.n_Passage_wide lk_wide (rdC (⟨by omega, by omega⟩) ⟨_, rfl, rdXT (T.t_DOWNWARD _) (dn_at h8) (rdO ?_)⟩)⟩
    have em : ((c : Int) % (p.water.wide : Int)) = ((c % p.water.wide : Nat) : Int) := (Int.natCast_emod _ _).symm
    have ed : ((c : Int) / (p.water.wide : Int)) = ((c / p.water.wide : Nat) : Int) := (Int.natCast_ediv _ _).symm
    rw [em, ed]
    refine ⟨_, rfl, rdO ⟨_, rfl, ite2 (fun q => ?_) (fun q => ?_)⟩⟩
    · exact iteT (no (Or.inl (of_decide_eq_true q)))
    refine (rdV rfl (rdF rfl ho cl T.n_Passage_wide lk_wide (rdO ⟨_, rfl, ite2 (fun q2 => ?_) (fun q2 => ?_)⟩)))
    · exact iteT (no (Or.inr (Or.inl (of_decide_eq_true q2))))
    refine (rdV rfl (rdO ⟨_, rfl, ite2 (fun q3 => ?_) (fun q3 => ?_)⟩))
    · exact iteT (no (Or.inr (Or.inr (Or.inl (of_decide_eq_true q3)))))
    refine (rdV rfl (rdF rfl ho cl T.n_Passage_high lk_high (rdO ⟨_, rfl, ite2 (fun q4 => ?_) (fun q4 => ?_)⟩)))
    · exact no (Or.inr (Or.inr (Or.inr (of_decide_eq_true q4))))
    have on : ¬ Pm.off p c h := fun z => by
      rcases z with z | z | z | z
      · exact q (decide_eq_true z)
      · exact q2 (decide_eq_true z)
      · exact q3 (decide_eq_true z)
      · exact q4 (decide_eq_true z)
    obtain ⟨n, e1, e2⟩ := Pm.next_on h8 on
    refine (rdM rfl ho rfl (rdV rfl (rdV rfl ⟨o, F, p, c, h, rfl, hp, h8, ?_⟩)))
    rw [e1]
    refine (rdF rfl ho cl T.n_Passage_shoals lk_shoals ⟨sh, _, rfl, DGet.k (k := Sum.inl (n : Int)) hsh, ?_⟩)
    rw [shk_val]
    rw [e2] at k
    by_cases hs : n ∈ p.water.shoals
    · rw [if_pos hs] at k
      rw [decide_eq_true hs]
      exact k
    · rw [if_neg hs] at k
      rw [decide_eq_false hs]
      exact k
end
end Pa

end
section
set_option Elab.async false
set_option linter.all false
set_option maxRecDepth 100000
set_option maxHeartbeats 2000000
namespace Pa
open PySem PySem.Spec PyProof.Rows L2
section
variable {P : Program} {w : World} {K : PySem.W.Frag} {mg : Str → Option Value} {base : Heap} {D : Adr}
theorem Sls.sail {H : Hp} {ts : List Addr} {p : Pm.Pas} {i : Nat} (h : Sls H ts p.sails) (hi : i < p.sails.length) : ∃ a, ts[i]? = some a ∧ H a = some (.tup (sv (p.sail i))) := by
  have hi' : i < ts.length := by rw [h.len]; exact hi
  obtain ⟨x, e1, e2⟩ := h.get i ts[i] (List.getElem?_eq_getElem hi')
  refine ⟨ts[i], List.getElem?_eq_getElem hi', ?_⟩
  have : p.sail i = x := by
    unfold Uw32.Passage.sail
    rw [List.getD_eq_getElem?_getD, e1]
    rfl
  rw [this]
  exact e2
theorem wind_le {p : Pm.Pas} (g : Pm.Good p) (m : Nat) : p.water.wind m ≤ 7 := by
  unfold Uw28.Water.wind
  by_cases h : p.water.winds.length = 0
  · rw [if_pos h]; exact Nat.zero_le _
  · rw [if_neg h]
    have hm : m % p.water.winds.length < p.water.winds.length := Nat.mod_lt _ (by omega)
    rw [List.getD_eq_getElem?_getD, List.getElem?_eq_getElem hm]
    exact g.wi _ (List.getElem_mem hm)
theorem takes_at {p : Pm.Pas} (g : Pm.Good p) {j : Nat} (hj : j < 4) {z : Int} (ez : z = (j : Nat)) : atI (nv p.water.takes) z = some (.int (p.water.takes.getD j 1 : Nat)) := by
  obtain ⟨a, b, c, d, e, _⟩ := g.tk
  subst ez
  rw [e]
  have : j = 0 ∨ j = 1 ∨ j = 2 ∨ j = 3 := by omega
  rcases this with rfl | rfl | rfl | rfl <;> rfl
noncomputable def sp_step_at (D : Adr) : Sp := fun vs H Q _ => ∃ (o : Addr) (F : List Addr) (p : Pm.Pas) (m h i : Nat), vs = [.ref o, .int m, .int h, .int i] ∧ PasAt D.C_Passage H o F p ∧ Pm.Good p ∧ h < 8 ∧ i < p.sails.length ∧
  (Pm.info p m (h, i) = none → Q .non H) ∧ ∀ sd k, Pm.info p m (h, i) = some (sd, k) → ∀ (H' : Hp) (r : Addr), Same H H' → H r = none → StepAt D.C_Step H' r h i sd k → Q (.ref r) H'
theorem ok_Passage_step_at (T : Txt K mg D) : FnOk P w K mg base CX0 3 D.f_Passage_step_at D.d_Passage_step_at ["self", "minute", "heading", "number"] (sp_step_at D) := by
  refine T.F_Passage_step_at.ok sc_Passage_step_at (fun vs H Q E h => ?_) (fun cdv A outer s H vs Q E hr h => ?_)
  · obtain ⟨o, F, p, m, h, i, rfl, _⟩ := h
    rfl
  · obtain ⟨o, F, p, m, h, i, rfl, hp, g, h8, hi, k1, k2⟩ := h
    have cl := T.cl_Passage
    obtain ⟨dx, sh, wr, sr, sm, sl, eF, ho, hsh, hwr, hsr, hsm, ⟨xs, hsl, hxs⟩, d1, d2, d3⟩ := hp.ex
    refine ⟨_, (pss_cons (ps_set (i := 4) sc_Passage_step_at.nd rfl (Or.inl rfl) (pe_op op_mod (pe_op op_sub (pv 2) (pe_call (ok_told_at T) (hr.mono (by decide)) (by rfl) T.g_told_at T.F_told_at.kp T.b_told_at .nil pass0 (pa_cons (pe_fld (pv 0) rfl) (pa_cons (pv 1) pa_nil)))) (pe_gc (by rfl) T.c_EIGHTHS)))
 (pss_cons (ps_set (i := 5) sc_Passage_step_at.nd rfl (Or.inl rfl) (pe_ix ix_list (pe_fld (pv 0) rfl) (pv 3) (fun _ _ => rfl)))
 (pss_cons (ps_if (PW.pt (pw_or (pt_cmpR op_eq (pv 4) pe_int (nomark _)) (pw_or1 (pt_not (pt_val (pe_call (ok_stands T) (hr.mono (by decide)) (by rfl) T.g_stands T.F_stands.kp T.b_stands .nil pass0 (pa_cons (pv 5) (pa_cons (pe_call (ok_told_at T) (hr.mono (by decide)) (by rfl) T.g_told_at T.F_told_at.kp T.b_told_at .nil pass0 (pa_cons (pe_fld (pv 0) rfl) (pa_cons (pv 1) pa_nil))) pa_nil))))))))
  (pss_one (ps_ret pe_non))
  pss_nil)
 (pss_cons (ps_set (i := 6) sc_Passage_step_at.nd rfl (Or.inl rfl) (pe_op op_add (pe_ix ix_list (pe_fld (pv 0) rfl) (pe_op op_sub (pe_call (ok_point_of T) (hr.mono (by decide)) (by rfl) T.g_point_of T.F_point_of.kp T.b_point_of .nil pass0 (pa_cons (pv 4) pa_nil)) pe_int) (fun _ _ => rfl)) (pe_ix ix_tup (pv 5) (pe_gc (by rfl) T.c_SLOW) (fun _ _ => rfl))))
 (pss_one (ps_ret (pe_make T.mk_Step (ok_Step_init T) (hr.mono (by decide)) (by rfl) T.g_Step T.b_Step_init .nil pass0 (pa_cons (pv 2) (pa_cons (pv 3) (pa_cons (pe_call (ok_side_of T) (hr.mono (by decide)) (by rfl) T.g_side_of T.F_side_of.kp T.b_side_of .nil pass0 (pa_cons (pv 4) pa_nil)) (pa_cons (pv 6) pa_nil))))))))))), ?_⟩
    obtain ⟨t, et, ht⟩ := hxs.sail hi
    have hw := wind_le g m
    have hlt := Pm.ei_lt p m h
    refine (rdV rfl (rdF rfl ho cl T.n_Passage_wind_row lk_wind_row (rdV rfl ⟨wr, p.water.winds, m, rfl, SqL.of hwr, rdO (rdC ((show (0 : Int) < 8 by decide)) ?_)⟩)))
    have e8 : ((h : Int) - ((told p.water.winds m : Nat) : Int)) % 8 = ((Pm.ei p m h : Nat) : Int) := by
      unfold Pm.ei
      have : told p.water.winds m = p.water.wind m := rfl
      rw [this]
      omega
    dsimp only
    rw [e8]
    refine (rdF rfl ho cl T.n_Passage_sails lk_sails (rdV rfl (rdXL (v := .ref t) (SqL.of hsl) (atI_nat (by rw [List.getElem?_map, et]; rfl)) ?_)))
    refine ⟨_, rfl, rfl, _, rfl, ?_⟩
    have en := decN (Pm.ei p m h) 0
    unfold Pm.info at k1 k2
    by_cases h0 : Pm.ei p m h = 0
    · rw [decide_eq_true h0] at en
      exact iteT' en (iteT (k1 (if_pos (Or.inl h0))))
    · rw [decide_eq_false h0] at en
      refine iteF' en ⟨_, rfl, rdF rfl ho cl T.n_Passage_strength_row lk_strength_row ⟨_, rfl, sr, p.strong, m, rfl, SqL.of hsr, t, p.sail i, _, rfl, SqT.of ht, _, rfl, ?_⟩⟩
      have es : told p.strong m = p.blows m := rfl
      rw [es]
      cases h1 : Uw29.stands (p.sail i) (p.blows m) with
      | false => exact iteT (k1 (if_pos (Or.inr h1)))
      | true =>
        have k2 := k2 _ _ (if_neg (fun z : Pm.ei p m h = 0 ∨ Uw29.stands (p.sail i) (p.blows m) = false => z.elim h0 (by rw [h1]; simp)))
        have hpt : 1 ≤ Uw28.point h (p.water.wind m) ∧ Uw28.point h (p.water.wind m) ≤ 4 := by
          rw [Pm.point_ei]
          omega
        refine iteF ⟨_, rfl, o, _, dx, _, _, rfl, ho, cl, T.n_Passage_step_minutes, lk_step_minutes, _, rfl, Pm.ei p m h, rfl, hlt, _, _, rfl, rfl, sm, _, _, _, rfl, rfl, SqL.of hsm, takes_at g (j := Uw28.point h (p.water.wind m) - 1) (by omega) ?_, _, rfl, t, _, _, _, rfl, rfl, SqT.of ht, rfl, _, _, rfl, rfl, ?_⟩
        · rw [← Pm.point_ei]
          omega
        refine ⟨_, rfl, _, rfl, _, rfl, Pm.ei p m h, rfl, hlt, _, rfl, fun x dx' nx ndx nex => ?_⟩
        refine ⟨x, dx', h, i, Uw28.side h (p.water.wind m), p.water.takes.getD (Uw28.point h (p.water.wind m) - 1) 1 + (p.sail i).cost, ?_, upd_same, rfl, ?_⟩
        · show [V.ref x, .int h, .int i, .int (sideE (Pm.ei p m h) : Nat), .int (((p.water.takes.getD (Uw28.point h (p.water.wind m) - 1) 1 : Nat) : Int) + ((p.sail i).cost : Int))] = _
          rw [← Int.natCast_add]
          rfl
        · rw [upd_upd]
          refine k2 _ x (fun b u hb => ?_) nx ⟨dx', upd_same⟩
          rw [upd_ne (ne_of_none hb nx), upd_ne (ne_of_none hb ndx)]
          exact hb
end
end Pa

end
section
set_option Elab.async false
set_option linter.all false
set_option maxRecDepth 100000
set_option maxHeartbeats 2000000
namespace Pm
/-- what a minute lets begin, of these moves -/
noncomputable def opt (p : Pas) (m : Nat) (l : List (Nat × Nat)) : List ((Nat × Nat) × (Nat × Nat)) := l.filterMap fun x => (info p m x).map fun q => (x, q)
theorem opt_none {p : Pas} {m : Nat} {l : List (Nat × Nat)} {x : Nat × Nat} (h : info p m x = none) : opt p m (l ++ [x]) = opt p m l := by
  unfold opt
  rw [List.filterMap_append]
  simp [h]
theorem opt_some {p : Pas} {m : Nat} {l : List (Nat × Nat)} {x q : Nat × Nat} (h : info p m x = some q) : opt p m (l ++ [x]) = opt p m l ++ [(x, q)] := by
  unfold opt
  rw [List.filterMap_append]
  simp [h]
noncomputable def pre (n h : Nat) : List (Nat × Nat) := (List.range h).flatMap fun h => (List.range n).map fun i => (h, i)
theorem pre_succ (n h : Nat) : pre n (h + 1) = pre n h ++ (List.range n).map fun i => (h, i) := by
  unfold pre
  rw [List.range_succ, List.flatMap_append]
  simp
theorem row_succ (h j : Nat) : (List.range (j + 1)).map (fun i => (h, i)) = (List.range j).map (fun i => (h, i)) ++ [(h, j)] := by
  rw [List.range_succ, List.map_append]
  rfl
theorem moves_pre (p : Pas) : p.moves = pre p.sails.length 8 := rfl
theorem opt_len (p : Pas) (m : Nat) (l : List (Nat × Nat)) : (opt p m l).length ≤ l.length := List.length_filterMap_le ..
theorem pre_len (n h : Nat) : (pre n h).length = h * n := by
  induction h with
  | zero => simp [pre]
  | succ k ih => rw [pre_succ, List.length_append, ih, List.length_map, List.length_range, Nat.succ_mul]
end Pm
namespace Pa
open PySem PySem.Spec PyProof.Rows L2
/-- steps stand at these places -/
structure StepsAt (C : Addr) (H : Hp) (rs : List Addr) (os : List ((Nat × Nat) × (Nat × Nat))) : Prop where
  len : rs.length = os.length
  get : ∀ (j : Nat) (r : Addr), rs[j]? = some r → ∃ x, os[j]? = some x ∧ StepAt C H r x.1.1 x.1.2 x.2.1 x.2.2
theorem StepsAt.keep {C : Addr} {H H' : Hp} {rs : List Addr} {os : List ((Nat × Nat) × (Nat × Nat))} (h : StepsAt C H rs os) (k : ∀ r C dx fs, H r = some (.ins C dx fs) → H' r = some (.ins C dx fs)) : StepsAt C H' rs os :=
  ⟨h.len, fun j r e => let ⟨x, e1, ⟨dx, e2⟩⟩ := h.get j r e; ⟨x, e1, ⟨dx, k _ _ _ _ e2⟩⟩⟩
theorem StepsAt.snoc {C : Addr} {H : Hp} {rs : List Addr} {os : List ((Nat × Nat) × (Nat × Nat))} {r : Addr} {x : (Nat × Nat) × (Nat × Nat)} (h : StepsAt C H rs os) (hr : StepAt C H r x.1.1 x.1.2 x.2.1 x.2.2) : StepsAt C H (rs ++ [r]) (os ++ [x]) := by
  refine ⟨by rw [List.length_append, List.length_append, h.len]; rfl, fun i b hb => ?_⟩
  by_cases hi : i < rs.length
  · rw [List.getElem?_append_left hi] at hb
    rw [List.getElem?_append_left (by rw [← h.len]; exact hi)]
    exact h.get i b hb
  · rw [List.getElem?_append_right (by omega)] at hb
    rw [List.getElem?_append_right (by rw [← h.len]; omega), ← h.len]
    cases e : i - rs.length with
    | zero =>
      rw [e] at hb
      have hb : r = b := Option.some.inj hb
      exact ⟨x, rfl, hb ▸ hr⟩
    | succ j => rw [e] at hb; simp at hb
section
variable {P : Program} {w : World} {K : PySem.W.Frag} {mg : Str → Option Value} {base : Heap} {D : Adr}
noncomputable def sp_steps_at (D : Adr) : Sp := fun vs H Q _ => ∃ (o : Addr) (F : List Addr) (p : Pm.Pas) (m : Nat), vs = [.ref o, .int m] ∧ PasAt D.C_Passage H o F p ∧ Pm.Good p ∧
  ∀ (H' : Hp) (L : Addr) (rs : List Addr), Same H H' → H L = none → H' L = some (.lst (rs.map V.ref)) → StepsAt D.C_Step H' rs (Pm.opt p m p.moves) → Q (.ref L) H'
/-- the steps of these moves are told -/
structure Told (D : Adr) (H0 : Hp) (p : Pm.Pas) (m : Nat) (L : Addr) (l : List (Nat × Nat)) (H : Hp) : Prop where
  ex : ∃ rs : List Addr, Same H0 H ∧ H L = some (.lst (rs.map V.ref)) ∧ StepsAt D.C_Step H rs (Pm.opt p m l)
noncomputable def KO (D : Adr) (H : Hp) (p : Pm.Pas) (m : Nat) (o L : Addr) (i : Nat) (σ : L2.St) (H1 : Hp) : Prop := ∃ v3 v4 v5, σ = [some (.ref o), some (.int m), some (.ref L), v3, v4, v5] ∧ Told D H p m L (Pm.pre p.sails.length i) H1
noncomputable def KN (D : Adr) (H : Hp) (p : Pm.Pas) (m : Nat) (o L : Addr) (i j : Nat) (σ : L2.St) (H2 : Hp) : Prop := ∃ v4 v5, σ = [some (.ref o), some (.int m), some (.ref L), some (.int (i : Int)), v4, v5] ∧ Told D H p m L (Pm.pre p.sails.length i ++ (List.range j).map fun n => (i, n)) H2
theorem ok_Passage_steps_at (T : Txt K mg D) : FnOk P w K mg base CX0 4 D.f_Passage_steps_at D.d_Passage_steps_at ["self", "minute"] (sp_steps_at D) := by
  refine T.F_Passage_steps_at.ok sc_Passage_steps_at (fun vs H Q E h => ?_) (fun cdv A outer s H vs Q E hr h => ?_)
  · obtain ⟨o, F, p, m, rfl, _⟩ := h
    rfl
  · obtain ⟨o, F, p, m, rfl, hp, g, k⟩ := h
    have cl := T.cl_Passage
    obtain ⟨dx, sh, wr, sr, sm, sl, eF, ho, hsh, hwr, hsr, hsm, ⟨xs, hsl, hxs⟩, d1, d2, d3⟩ := hp.ex
    refine ⟨_, (pss_cons (ps_set (i := 2) sc_Passage_steps_at.nd rfl (Or.inl rfl) (pe_lst pa_nil))
 (pss_cons (ps_for PassesOwn.never rfl (pi_range1 (by rfl) T.z_range (pa_cons (pe_gc (by rfl) T.c_EIGHTHS) pa_nil)) (pg_name (i := 3) sc_Passage_steps_at.nd rfl (Or.inl rfl))
  (pss_one (ps_for PassesOwn.never rfl (pi_range1 (by rfl) T.z_range (pa_cons (pe_callB call_len_seq (by rfl) T.z_len bt_len (pa_cons (pe_fld (pv 0) rfl) pa_nil)) pa_nil)) (pg_name (i := 4) sc_Passage_steps_at.nd rfl (Or.inl rfl))
  (pss_cons (ps_set (i := 5) sc_Passage_steps_at.nd rfl (Or.inl rfl) (pe_meth (pv 0) T.cl_Passage T.m_Passage_step_at (ok_Passage_step_at T) (hr.mono (by decide)) T.b_Passage_step_at .nil pass0 (pa_cons (pv 1) (pa_cons (pv 3) (pa_cons (pv 4) pa_nil)))))
 (pss_one (ps_if (pt_cmp (pc_notN (pv 5)))
  (pss_one (ps_expr (pe_bm PySem.F.plainAttrs_list PySem.F.slot_list_append PySem.F.type_list_append mt_append (pv 2) (pa_cons (pv 5) pa_nil))))
  pss_nil))))))
 (pss_one (ps_ret (pv 2))))), ?_⟩
    have h3 := g.sn
    refine ⟨Nat.zero_le _, fun L hL => ?_⟩
    have t0 : Told D H p m L (Pm.pre p.sails.length 0) (upd H L (.lst [])) := ⟨[], same_new hL, upd_same, ⟨rfl, fun j r e => by simp at e⟩⟩
    refine ⟨8, rfl, by decide, by decide, for_range (lo := 0) (n := 8) (KO D H p m o L) ⟨none, none, none, rfl, t0⟩ ?_ ?_⟩
    · rintro i σ H1 hi ⟨v3, v4, v5, rfl, t1⟩
      have sm1 : Same H H1 := let ⟨_, s1, _⟩ := t1.ex; s1
      refine (rdF rfl (sm1 _ _ ho) cl T.n_Passage_sails lk_sails ⟨sl, _, rfl, .inl (SqL.of (sm1 _ _ hsl)), ?_⟩)
      have el : (xs.map V.ref).length = p.sails.length := by rw [List.length_map, hxs.len]
      rw [el]
      refine ⟨_, rfl, by omega, by omega, for_range (lo := 0) (n := p.sails.length) (KN D H p m o L i) ⟨v4, v5, ?_, ?_⟩ ?_ ?_⟩
      · rw [Int.zero_add]; rfl
      · simpa using t1
      · rintro j σ H2 hj ⟨v4, v5, rfl, t2⟩
        obtain ⟨rs, sm2, hl2, st2⟩ := t2.ex
        refine (rdM rfl (sm2 _ _ ho) rfl (rdV rfl (rdV rfl (rdV rfl ⟨o, F, p, m, i, j, ?_, hp.same sm2, g, hi, hj, fun e0 => ?_, fun sd q e0 H3 r sm3 hr3 st3 => ?_⟩))))
        · rw [Int.zero_add]; rfl
        · -- no step
          refine (rdV rfl ⟨_, rfl, iteF ⟨_, _, rfl, ?_⟩⟩)
          rw [Pm.row_succ, ← List.append_assoc]
          exact ⟨rs, sm2, hl2, by rw [Pm.opt_none e0]; exact st2⟩
        · refine ⟨_, rfl, _, rfl, iteT ⟨_, rfl, .inl ⟨rfl, _, SqL.of (sm3 _ _ hl2)⟩, _, rfl, L, _, _, rfl, rfl, sm3 _ _ hl2, ?_, ?_⟩⟩
          · have h1 := st2.len
            have h2 := Pm.opt_len p m (Pm.pre p.sails.length i ++ (List.range j).map fun n => (i, n))
            rw [List.length_append, Pm.pre_len, List.length_map, List.length_range] at h2
            have h5 : i * p.sails.length ≤ 8 * 3 := Nat.mul_le_mul (by omega) h3
            refine small1000 ?_
            rw [List.length_map]
            omega
          · refine ⟨_, _, rfl, ?_⟩
            rw [Pm.row_succ, ← List.append_assoc]
            have keep : ∀ r C dx fs, H2 r = some (.ins C dx fs) → (upd H3 L (.lst (rs.map V.ref ++ [.ref r]))) r = some (.ins C dx fs) := fun r C dx fs e => by
              rw [upd_ne (ne_of e hl2 (by intro z; cases z))]; exact sm3 _ _ e
            refine ⟨rs ++ [r], fun b u hb => ?_, by rw [upd_same, List.map_append]; rfl, ?_⟩
            · rw [upd_ne (ne_of_none hb hL)]
              exact sm3 _ _ (sm2 _ _ hb)
            · rw [Pm.opt_some e0]
              refine StepsAt.snoc (st2.keep fun r' C dx fs e => ?_) ?_
              · rw [upd_ne (ne_of e hl2 (by intro z; cases z))]; exact sm3 _ _ e
              · obtain ⟨dx3, e3⟩ := st3.ex
                have nL : r ≠ L := fun z => by rw [z, hl2] at hr3; cases hr3
                exact ⟨dx3, by rw [upd_ne nL]; exact e3⟩
      · rintro σ H2 ⟨v4, v5, rfl, t2⟩
        refine ⟨_, v4, v5, rfl, ?_⟩
        rw [Pm.pre_succ]
        exact t2
    · rintro σ H1 ⟨v3, v4, v5, rfl, t1⟩
      obtain ⟨rs, sm1, hl1, st1⟩ := t1.ex
      exact (rdV rfl (k H1 L rs sm1 hL hl1 (by rw [Pm.moves_pre]; exact st1)))
end
end Pa

end
section
set_option Elab.async false
set_option linter.all false
set_option maxRecDepth 100000
set_option maxHeartbeats 2000000
namespace Pm
open Uw32
theorem flat_get : ∀ (l : List (Nat × Nat)) (k : Nat), (flat l)[2 * k]? = l[k]?.map (·.1) ∧ (flat l)[1 + 2 * k]? = l[k]?.map (·.2)
  | [], k => ⟨by simp [flat], by simp [flat]⟩
  | x :: r, 0 => ⟨rfl, rfl⟩
  | x :: r, k + 1 => by
    have ih := flat_get r k
    have e1 : 2 * (k + 1) = (2 * k) + 1 + 1 := by omega
    have e2 : 1 + 2 * (k + 1) = (1 + 2 * k) + 1 + 1 := by omega
    rw [e2, e1]
    exact ih
theorem pick_all {α β : Type} (f : α → β) : ∀ l : List α, (List.range l.length).filterMap (fun k => l[k]?.map f) = l.map f
  | [] => rfl
  | x :: r => by
    have ih := pick_all f r
    rw [List.length_cons, List.range_succ_eq_map, List.filterMap_cons, List.filterMap_map]
    show f x :: List.filterMap (fun k => r[k]?.map f) (List.range r.length) = _
    rw [ih]
    rfl
noncomputable def isWay (p : Pas) (l : List (Nat × Nat)) : Bool := decide (l.length ≤ 40) && ((l.all fun x => decide (x.1 < 8)) && l.all fun x => decide (x.2 < p.sails.length))
theorem isWay_iff {p : Pas} {l : List (Nat × Nat)} : (40 < l.length ∨ (l.all fun x => decide (x.1 ≤ 7) && decide (x.2 < p.sails.length)) = false) ↔ isWay p l = false := by
  unfold isWay
  have e : (l.all fun x => decide (x.1 ≤ 7) && decide (x.2 < p.sails.length)) = ((l.all fun x => decide (x.1 < 8)) && l.all fun x => decide (x.2 < p.sails.length)) := by
    induction l with
    | nil => rfl
    | cons x r ih =>
      rw [List.all_cons, List.all_cons, List.all_cons, ih]
      have : decide (x.1 ≤ 7) = decide (x.1 < 8) := by simp only [decide_eq_decide]; omega
      rw [this]
      cases decide (x.1 < 8) <;> cases decide (x.2 < p.sails.length) <;> simp
  rw [e]
  by_cases h : l.length ≤ 40
  · cases ((l.all fun x => decide (x.1 < 8)) && l.all fun x => decide (x.2 < p.sails.length)) <;> simp [h]
  · simp [h]; omega
end Pm
namespace Pa
open PySem PySem.Spec PyProof.Rows L2
theorem nv_evens (l : List (Nat × Nat)) : ((evens 0 l.length).filterMap fun i => (nv (Uw32.flat l))[i]?) = nv (l.map (·.1)) ∧ ((evens 1 l.length).filterMap fun i => (nv (Uw32.flat l))[i]?) = nv (l.map (·.2)) := by
  unfold evens nv
  rw [List.filterMap_map, List.filterMap_map]
  constructor
  · rw [List.map_map]
    refine Eq.trans ?_ (Pm.pick_all _ l)
    refine congrArg (fun f => List.filterMap f (List.range l.length)) (funext fun k => ?_)
    simp only [Function.comp_apply, Nat.zero_add]
    rw [List.getElem?_map, (Pm.flat_get l k).1, Option.map_map]
  · rw [List.map_map]
    refine Eq.trans ?_ (Pm.pick_all _ l)
    refine congrArg (fun f => List.filterMap f (List.range l.length)) (funext fun k => ?_)
    simp only [Function.comp_apply]
    rw [List.getElem?_map, (Pm.flat_get l k).2, Option.map_map]
section
variable {P : Program} {w : World} {K : PySem.W.Frag} {mg : Str → Option Value} {base : Heap} {D : Adr}
noncomputable def sp_stand_behind (D : Adr) : Sp := fun vs H Q _ => ∃ (o t r : Addr) (F : List Addr) (p : Pm.Pas) (m c s b h i sd k d : Nat), vs = [.ref o, .ref t, .ref r] ∧ PasAt D.C_Passage H o F p ∧ H t = some (.tup (tv m c s b)) ∧ StepAt D.C_Step H r h i sd k ∧ h < 8 ∧ p.water.next c h = some d ∧
  ∀ q, H q = none → Q (.ref q) (upd H q (.tup (tv (Pm.later p m s b i sd k) d (sdb s sd) i)))
theorem ok_Passage_stand_behind (T : Txt K mg D) : FnOk P w K mg base CX0 2 D.f_Passage_stand_behind D.d_Passage_stand_behind ["self", "stand", "step"] (sp_stand_behind D) := by
  refine T.F_Passage_stand_behind.ok sc_Passage_stand_behind (fun vs H Q E h => ?_) (fun cdv A outer s H vs Q E hr h => ?_)
  · obtain ⟨o, t, r, F, p, m, c, s, b, h, i, sd, k, d, rfl, _⟩ := h
    rfl
  · obtain ⟨o, t, r, F, p, m, c, s', b, h, i, sd, k, d, rfl, hp, ht, hs, h8, hn, q⟩ := h
    have cl := T.cl_Passage
    have cs := T.cl_Step
    obtain ⟨dx, sh, wr, sr, sm, sl, eF, ho, _⟩ := hp.ex
    obtain ⟨dr, hr'⟩ := hs.ex
    refine ⟨_, (pss_cons (ps_set (i := 3) sc_Passage_stand_behind.nd rfl (Or.inl rfl) (pe_op op_add (pe_ix ix_tup (pv 1) (pe_gc (by rfl) T.c_MINUTE) (fun _ _ => rfl)) (pe_fld (pv 2) rfl)))
 (pss_cons (ps_if (pt_val (pe_meth (pv 2) T.cl_Step T.m_Step_turns (ok_Step_turns T) (hr.mono (by decide)) T.b_Step_turns .nil pass0 (pa_cons (pe_ix ix_tup (pv 1) (pe_gc (by rfl) T.c_SIDE) (fun _ _ => rfl)) pa_nil)))
  (pss_one (ps_aug (i := 3) sc_Passage_stand_behind.nd rfl (Or.inl rfl) (pe_fld (pv 0) rfl) ip_add))
  pss_nil)
 (pss_cons (ps_if (pt_cmpR op_ne (pe_fld (pv 2) rfl) (pe_ix ix_tup (pv 1) (pe_gc (by rfl) T.c_SAIL_SET) (fun _ _ => rfl)) (nomark _))
  (pss_one (ps_aug (i := 3) sc_Passage_stand_behind.nd rfl (Or.inl rfl) (pe_fld (pv 0) rfl) ip_add))
  pss_nil)
 (pss_cons (ps_set (i := 4) sc_Passage_stand_behind.nd rfl (Or.inl rfl) (pe_meth (pv 0) T.cl_Passage T.m_Passage_cell_behind (ok_Passage_cell_behind T) (hr.mono (by decide)) T.b_Passage_cell_behind .nil pass0 (pa_cons (pe_ix ix_tup (pv 1) (pe_gc (by rfl) T.c_CELL) (fun _ _ => rfl)) (pa_cons (pe_fld (pv 2) rfl) pa_nil))))
 (pss_one (ps_ret (pe_tup (pa_cons (pv 3) (pa_cons (pv 4) (pa_cons (pe_meth (pv 2) T.cl_Step T.m_Step_side_behind (ok_Step_side_behind T) (hr.mono (by decide)) T.b_Step_side_behind .nil pass0 (pa_cons (pe_ix ix_tup (pv 1) (pe_gc (by rfl) T.c_SIDE) (fun _ _ => rfl)) pa_nil)) (pa_cons (pe_fld (pv 2) rfl) pa_nil))))))))))), ?_⟩
    refine (rdV rfl (rdXT (SqT.of ht) rfl (rdF rfl hr' cs T.n_Step_minutes lk_minutes (rdO ?_))))
    refine (rdM rfl hr' rfl (rdV rfl (rdXT (SqT.of ht) rfl ⟨r, h, i, sd, k, s', rfl, hs, _, rfl, ?_⟩)))
    have ecb : Pm.cb p c h = (d : Int) := by
      by_cases ho' : Pm.off p c h
      · rw [Pm.next_off h8 ho'] at hn; cases hn
      · obtain ⟨n, e1, e2⟩ := Pm.next_on h8 ho'
        rw [e2] at hn
        by_cases hsn : n ∈ p.water.shoals
        · rw [if_pos hsn] at hn; cases hn
        · rw [if_neg hsn] at hn
          rw [e1, Option.some.inj hn]
    cases hT : Pm.tn s' sd with
    | true =>
      refine iteT ⟨_, rfl, _, rfl, o, _, dx, _, _, rfl, ho, cl, T.n_Passage_turn_minutes, lk_turn_minutes, _, _, rfl, rfl, ?_⟩
      refine ⟨_, rfl, r, _, dr, _, _, rfl, hr', cs, T.n_Step_with_sail, lk_with_sail, _, rfl, t, _, _, _, rfl, rfl, SqT.of ht, rfl, rfl, _, rfl, ?_⟩
      by_cases hb : i = b
      · subst hb
        refine iteF' (by rw [ne0]; simp) ?_
        refine (rdM rfl ho rfl (rdV rfl (rdXT (SqT.of ht) rfl (rdF rfl hr' cs T.n_Step_heading lk_heading ⟨o, F, p, c, h, rfl, hp, h8, ?_⟩))))
        rw [ecb]
        refine ⟨_, rfl, _, rfl, rdM rfl hr' rfl ⟨_, rfl, rdXT (SqT.of ht) rfl ⟨r, h, i, sd, k, s', rfl, hs, rdF rfl hr' cs T.n_Step_with_sail lk_with_sail ⟨small1 (by show 4 ≤ 1000; decide), fun y hy => ?_⟩⟩⟩⟩
        have q := q y hy
        unfold Pm.later at q
        simp only [hT, if_true, ne_eq, not_true_eq_false, if_false, Nat.add_zero] at q
        exact q
      · refine iteT' (by rw [ne0]; simp [hb]) ⟨_, rfl, _, rfl, o, _, dx, _, _, rfl, ho, cl, T.n_Passage_change_minutes, lk_change_minutes, _, _, rfl, rfl, ?_⟩
        refine (rdM rfl ho rfl (rdV rfl (rdXT (SqT.of ht) rfl (rdF rfl hr' cs T.n_Step_heading lk_heading ⟨o, F, p, c, h, rfl, hp, h8, ?_⟩))))
        rw [ecb]
        refine ⟨_, rfl, _, rfl, rdM rfl hr' rfl ⟨_, rfl, rdXT (SqT.of ht) rfl ⟨r, h, i, sd, k, s', rfl, hs, rdF rfl hr' cs T.n_Step_with_sail lk_with_sail ⟨small1 (by show 4 ≤ 1000; decide), fun y hy => ?_⟩⟩⟩⟩
        have q := q y hy
        unfold Pm.later at q
        simp only [hT, if_true, hb, ne_eq, not_false_eq_true, if_true, Nat.add_zero] at q
        exact q
    | false =>
      refine iteF ?_
      refine ⟨_, rfl, r, _, dr, _, _, rfl, hr', cs, T.n_Step_with_sail, lk_with_sail, _, rfl, t, _, _, _, rfl, rfl, SqT.of ht, rfl, rfl, _, rfl, ?_⟩
      by_cases hb : i = b
      · subst hb
        refine iteF' (by rw [ne0]; simp) ?_
        refine (rdM rfl ho rfl (rdV rfl (rdXT (SqT.of ht) rfl (rdF rfl hr' cs T.n_Step_heading lk_heading ⟨o, F, p, c, h, rfl, hp, h8, ?_⟩))))
        rw [ecb]
        refine ⟨_, rfl, _, rfl, rdM rfl hr' rfl ⟨_, rfl, rdXT (SqT.of ht) rfl ⟨r, h, i, sd, k, s', rfl, hs, rdF rfl hr' cs T.n_Step_with_sail lk_with_sail ⟨small1 (by show 4 ≤ 1000; decide), fun y hy => ?_⟩⟩⟩⟩
        have q := q y hy
        unfold Pm.later at q
        simp only [hT, Bool.false_eq_true, if_false, ne_eq, not_true_eq_false, if_false, Nat.add_zero] at q
        exact q
      · refine iteT' (by rw [ne0]; simp [hb]) ⟨_, rfl, _, rfl, o, _, dx, _, _, rfl, ho, cl, T.n_Passage_change_minutes, lk_change_minutes, _, _, rfl, rfl, ?_⟩
        refine (rdM rfl ho rfl (rdV rfl (rdXT (SqT.of ht) rfl (rdF rfl hr' cs T.n_Step_heading lk_heading ⟨o, F, p, c, h, rfl, hp, h8, ?_⟩))))
        rw [ecb]
        refine ⟨_, rfl, _, rfl, rdM rfl hr' rfl ⟨_, rfl, rdXT (SqT.of ht) rfl ⟨r, h, i, sd, k, s', rfl, hs, rdF rfl hr' cs T.n_Step_with_sail lk_with_sail ⟨small1 (by show 4 ≤ 1000; decide), fun y hy => ?_⟩⟩⟩⟩
        have q := q y hy
        unfold Pm.later at q
        simp only [hT, Bool.false_eq_true, if_false, hb, ne_eq, not_false_eq_true, if_true, Nat.add_zero] at q
        exact q
end
end Pa

end
section
set_option Elab.async false
set_option linter.all false
set_option maxRecDepth 100000
set_option maxHeartbeats 2000000
namespace Pa
open PySem PySem.Spec PyProof.Rows L2
noncomputable def iv (l : List Int) : List V := l.map V.int
theorem max_all {l : List Nat} {M d : Int} {n : Nat} (h0 : Pm.intsN l = [] → M = d) (h1 : Pm.intsN l ≠ [] → M ∈ Pm.intsN l ∧ ∀ b ∈ Pm.intsN l, b ≤ M) (hd : d < (n : Int)) : decide (M < (n : Int)) = l.all fun x => decide (x < n) := by
  rw [Bool.eq_iff_iff, decide_eq_true_eq, List.all_eq_true]
  simp only [decide_eq_true_eq]
  cases l with
  | nil =>
    have := h0 rfl
    constructor
    · intro _ x hx; cases hx
    · intro _; omega
  | cons x r =>
    obtain ⟨hm, hall⟩ := h1 (by unfold Pm.intsN; simp)
    constructor
    · intro q y hy
      have := hall (y : Int) (List.mem_map.mpr ⟨y, hy, rfl⟩)
      omega
    · intro q
      obtain ⟨y, hy, rfl⟩ := List.mem_map.mp hm
      have := q y hy
      omega
section
variable {P : Program} {w : World} {K : PySem.W.Frag} {mg : Str → Option Value} {base : Heap} {D : Adr}
noncomputable def sp_is_way (K : PySem.W.Frag) (D : Adr) : Sp := fun vs H Q _ => ∃ (o a : Addr) (F : List Addr) (p : Pm.Pas) (l : List (Nat × Nat)), vs = [.ref o, .ref a] ∧ PasAt D.C_Passage H o F p ∧ SqL K H a (nv (Uw32.flat l)) ∧ ∀ H', Same H H' → Q (.bl (Pm.isWay p l)) H'
theorem ok_Passage_is_way (T : Txt K mg D) : FnOk P w K mg base CX0 1 D.f_Passage_is_way D.d_Passage_is_way ["self", "way"] (sp_is_way K D) := by
  refine T.F_Passage_is_way.ok sc_Passage_is_way (fun vs H Q E h => ?_) (fun cdv A outer s H vs Q E hr h => ?_)
  · obtain ⟨o, a, F, p, l, rfl, _⟩ := h
    rfl
  · obtain ⟨o, a, F, p, l, rfl, hp, hl, k⟩ := h
    have cl := T.cl_Passage
    obtain ⟨dx, sh, wr, sr, sm, sl, eF, ho, hsh, hwr, hsr, hsm, ⟨xs, hsl, hxs⟩, d1, d2, d3⟩ := hp.ex
    refine ⟨_, (pss_cons (ps_if (pt_cmpR op_gt (pe_callB call_len_seq (by rfl) T.z_len bt_len (pa_cons (pv 1) pa_nil)) (pe_op op_mul pe_int (pe_gc (by rfl) T.c_MOST_STEPS)) (nomark _))
  (pss_one (ps_ret pe_bl))
  pss_nil)
 (pss_one (ps_ret (pe_and (pe_cmpR op_lt (pe_maxD rfl (by rfl) T.z_max (pa_cons (pe_slice2 (pv 1) pe_int pe_int) pa_nil) pe_int) (pe_gc (by rfl) T.c_EIGHTHS) (nomark _)) (pe_one (pe_cmpR op_lt (pe_maxD rfl (by rfl) T.z_max (pa_cons (pe_slice2 (pv 1) pe_int pe_int) pa_nil) (pe_un un_neg pe_int)) (pe_callB call_len_seq (by rfl) T.z_len bt_len (pa_cons (pe_fld (pv 0) rfl) pa_nil)) (nomark _))))))), ?_⟩
    have hlen : (nv (Uw32.flat l)).length = 2 * l.length := by rw [nv_length, Pm.flat_len]
    refine ⟨_, rfl, a, _, rfl, .inl hl, rdC (.inl ⟨by decide, by decide⟩) (rdO ⟨_, rfl, ?_⟩)⟩
    unfold Pm.isWay at k
    rw [hlen]
    by_cases h40 : l.length ≤ 40
    · rw [decide_eq_true h40, Bool.true_and] at k
      refine iteF' (decide_eq_false (by omega)) ⟨_, rfl, a, _, 0, l.length, rfl, rfl, rfl, by decide, hl, hlen, fun q hq => ?_⟩
      rw [(nv_evens l).1]
      have sm1 : Same H (upd H q (.lst (nv (l.map (·.1))))) := same_new hq
      refine ⟨q, Pm.intsN (l.map (·.1)), 0, rfl, rfl, by rw [← nv_map]; exact SqL.of upd_same, fun M m0 m1 => (rdO ⟨_, rfl, ?_⟩)⟩
      have e1 : decide (M < (8 : Int)) = l.all fun x => decide (x.1 < 8) := by
        have := max_all (n := 8) m0 m1 (by decide)
        rw [List.all_map] at this
        exact this
      rw [e1]
      cases h1 : (l.all fun x => decide (x.1 < 8)) with
      | false =>
        rw [h1, Bool.false_and] at k
        exact iteF (k _ sm1)
      | true =>
        rw [h1, Bool.true_and] at k
        refine iteT ⟨_, rfl, a, _, 1, l.length, rfl, rfl, rfl, by decide, sm1.seq hl, hlen, fun q2 hq2 => ?_⟩
        rw [(nv_evens l).2]
        have sm2 : Same H (upd (upd H q (.lst (nv (l.map (·.1))))) q2 (.lst (nv (l.map (·.2))))) := sm1.trans (same_new hq2)
        refine ⟨_, rfl, q2, Pm.intsN (l.map (·.2)), -1, rfl, rfl, by rw [← nv_map]; exact SqL.of upd_same, fun M2 n0 n1 => (rdF rfl (sm2 _ _ ho) cl T.n_Passage_sails lk_sails ⟨sl, _, rfl, .inl (SqL.of (sm2 _ _ hsl)), rdO ?_⟩)⟩
        have e2 : decide (M2 < ((xs.map V.ref).length : Int)) = l.all fun x => decide (x.2 < p.sails.length) := by
          rw [List.length_map, hxs.len]
          have := max_all (n := p.sails.length) n0 n1 (by omega)
          rw [List.all_map] at this
          exact this
        show Q (.bl (decide (M2 < ((xs.map V.ref).length : Int)))) _
        rw [e2]
        exact k _ sm2
    · rw [decide_eq_false h40, Bool.false_and] at k
      exact iteT' (decide_eq_true (by omega)) (k H (Same.refl _))
noncomputable def kst (m c s b : Nat) : List Key := [Sum.inl (m : Int), Sum.inl (c : Int), Sum.inl (s : Int), Sum.inl (b : Int)]
theorem kst_tv (m c s b : Nat) : (kst m c s b).map kV = tv m c s b := rfl
/-- kept for its stand, unless an earlier one is kept -/
noncomputable def sp_keep_earlier : Sp := fun vs H Q _ => ∃ (d t a : Addr) (kvs : List (List Key × V)) (k : List Key) (w : List Int), vs = [.ref d, .ref t, .ref a] ∧ H d = some (.dT kvs) ∧ kvs.length < sizeLine ∧ H t = some (.tup (k.map kV)) ∧ H a = some (.lst (iv w)) ∧
  (valV kvs k = none → Q .non (upd H d (.dT (putK kvs k (.ref a))))) ∧ ∀ v, valV kvs k = some v → ∃ (b : Addr) (u : List Int), v = .ref b ∧ H b = some (.lst (iv u)) ∧
    (HT.lexLt w u = true → Q .non (upd H d (.dT (putK kvs k (.ref a))))) ∧ (HT.lexLt w u = false → Q .non H)
theorem ok_keep_earlier (T : Txt K mg D) : FnOk P w K mg base CX0 1 D.f_keep_earlier D.d_keep_earlier ["ways", "stand", "way"] sp_keep_earlier := by
  refine T.F_keep_earlier.ok sc_keep_earlier (fun vs H Q E h => ?_) (fun cdv A outer s H vs Q E hr h => ?_)
  · obtain ⟨d, t, a, kvs, k, w, rfl, _⟩ := h
    rfl
  · obtain ⟨d, t, a, kvs, k, w, rfl, hd, hz, ht, ha, k1, k2⟩ := h
    have hu := hu_of hr
    have hu0 := Nat.lt_of_succ_lt hu
    refine ⟨_, (pss_one (ps_if (PW.pt (pw_or (pt_cmp (pc_dnotin hu (pv 1) (pv 0))) (pw_or1 (pt_cmpR (op_ltL hu0) (pv 2) (pe_dget hu (pv 0) (pv 1) (fun _ _ => rfl)) (nomark _)))))
  (pss_one (ps_dput hu (pv 0) (pv 1) (pv 2) rfl))
  pss_nil)), ?_⟩
    refine ⟨_, rfl, _, rfl, d, _, rfl, DGet.t (k := k) hd ht, _, rfl, ?_⟩
    have put : (Q .non (upd H d (.dT (putK kvs k (.ref a))))) → sDPut (tVar 0) (tVar 1) (tVar 2) ⟨fun _ H' => Q .non H', Q, fun _ _ => False, fun _ _ => False⟩ (L2.start ["ways", "stand", "way"] [.ref d, .ref t, .ref a]) H := fun q =>
      ⟨_, rfl, _, rfl, _, rfl, d, _, rfl, DPut.t (k := k) hd ht hz, q⟩
    cases hv : valV kvs k with
    | none => exact iteT (iteT (put (k1 hv)))
    | some v =>
      obtain ⟨b, u, rfl, hb, q1, q2⟩ := k2 v hv
      refine iteF ⟨_, rfl, _, rfl, _, rfl, d, _, rfl, by rw [← hv]; exact DGet.t (k := k) hd ht, a, b, w, u, rfl, rfl, ha, hb, _, rfl, ?_⟩
      cases hl : HT.lexLt w u with
      | true => exact iteT (put (q1 hl))
      | false => exact iteF (q2 hl)
end
end Pa

end
section
set_option Elab.async false
set_option linter.all false
set_option maxRecDepth 100000
set_option maxHeartbeats 2000000
namespace Pm
open Uw32
theorem sails_bad {p : Pas} {n t c s b : Nat} {x : Nat × Nat} {r : List (Nat × Nat)} (h : p.water.next c x.1 = none ∨ p.step_ t s b x.1 x.2 = none) : p.sails_ n t c s b (x :: r) = .error n := by
  unfold Passage.sails_
  rcases h with h | h
  · rw [h]
  · rw [h]
    cases p.water.next c x.1 <;> rfl
theorem sails_good {p : Pas} {n t c s b d sd k : Nat} {x : Nat × Nat} {r : List (Nat × Nat)} (hi : x.2 < p.sails.length) (h1 : p.water.next c x.1 = some d) (h2 : info p t x = some (sd, k)) : p.sails_ n t c s b (x :: r) = p.sails_ (n + 1) (later p t s b x.2 sd k) d (if sd = 0 then s else sd) x.2 r := by
  conv => lhs; unfold Passage.sails_
  rw [h1, step_info hi, h2]
  have e : sd = Uw28.side x.1 (p.water.wind t) := by
    unfold info at h2
    split at h2
    · cases h2
    · exact (congrArg Prod.fst (Option.some.inj h2)).symm
  simp only [Option.map_some]
  unfold later Uw28.sideOf
  rw [← e, Nat.add_assoc, Nat.add_assoc, Nat.add_assoc]
theorem info_none {p : Pas} {t s b : Nat} {x : Nat × Nat} (hi : x.2 < p.sails.length) (h2 : info p t x = none) : p.step_ t s b x.1 x.2 = none := by
  rw [step_info hi, h2]
  rfl
end Pm
namespace Pa
open PySem PySem.Spec PyProof.Rows L2
/-- between two steps of the way -/
noncomputable def CI (o a : Addr) (H : Hp) (p : Pm.Pas) (l : List (Nat × Nat)) (j : Nat) (σ : L2.St) (H2 : Hp) : Prop := ∃ (v3 v4 : Option V) (q t c s b : Nat), σ = [some (.ref o), some (.ref a), some (.ref q), v3, v4] ∧ Same H H2 ∧ H2 q = some (.tup (tv t c s b)) ∧ p.sails_ 0 0 p.water.boat 0 p.bare l = p.sails_ j t c s b (l.drop j)
section
variable {P : Program} {w : World} {K : PySem.W.Frag} {mg : Str → Option Value} {base : Heap} {D : Adr}
noncomputable def sp_check (K : PySem.W.Frag) (D : Adr) : Sp := fun vs H Q _ => ∃ (o a : Addr) (F : List Addr) (p : Pm.Pas) (l : List (Nat × Nat)), vs = [.ref o, .ref a] ∧ PasAt D.C_Passage H o F p ∧ Pm.Good p ∧ SqL K H a (nv (Uw32.flat l)) ∧ l.length ≤ 50 ∧
  ∀ (H' : Hp) (r : Addr), Same H H' → H r = none → H' r = some (.lst (iv (Pm.out (Uw32.step p (.check l)).2))) → Q (.ref r) H'
theorem ok_Passage_check (T : Txt K mg D) : FnOk P w K mg base CX0 5 D.f_Passage_check D.d_Passage_check ["self", "way"] (sp_check K D) := by
  refine T.F_Passage_check.ok sc_Passage_check (fun vs H Q E h => ?_) (fun cdv A outer s H vs Q E hr h => ?_)
  · obtain ⟨o, a, F, p, l, rfl, _⟩ := h
    rfl
  · obtain ⟨o, a, F, p, l, rfl, hp, g, hl, h50, k⟩ := h
    have cl := T.cl_Passage
    have cs := T.cl_Step
    obtain ⟨dx, sh, wr, sr, sm, sl, eF, ho, _⟩ := hp.ex
    refine ⟨_, (pss_cons (ps_if (pt_not (pt_val (pe_meth (pv 0) T.cl_Passage T.m_Passage_is_way (ok_Passage_is_way T) (hr.mono (by decide)) T.b_Passage_is_way .nil pass0 (pa_cons (pv 1) pa_nil))))
  (pss_one (ps_ret (pe_lst (pa_cons (pe_gc (by rfl) T.c_OUT_OF_BOUNDS) pa_nil))))
  pss_nil)
 (pss_cons (ps_set (i := 2) sc_Passage_check.nd rfl (Or.inl rfl) (pe_meth0 (pv 0) T.cl_Passage T.m_Passage_first_stand (ok_Passage_first_stand T) (hr.mono (by decide)) T.b_Passage_first_stand .nil pass0))
 (pss_cons (ps_for PassesOwn.never rfl (pi_range1 (by rfl) T.z_range (pa_cons (pe_op op_fdiv (pe_callB call_len_seq (by rfl) T.z_len bt_len (pa_cons (pv 1) pa_nil)) pe_int) pa_nil)) (pg_name (i := 3) sc_Passage_check.nd rfl (Or.inl rfl))
  (pss_cons (ps_set (i := 4) sc_Passage_check.nd rfl (Or.inl rfl) (pe_meth (pv 0) T.cl_Passage T.m_Passage_step_at (ok_Passage_step_at T) (hr.mono (by decide)) T.b_Passage_step_at .nil pass0 (pa_cons (pe_ix ix_tup (pv 2) (pe_gc (by rfl) T.c_MINUTE) (fun _ _ => rfl)) (pa_cons (pe_ix ix_list (pv 1) (pe_op op_mul pe_int (pv 3)) (fun _ _ => rfl)) (pa_cons (pe_ix ix_list (pv 1) (pe_op op_add (pe_op op_mul pe_int (pv 3)) pe_int) (fun _ _ => rfl)) pa_nil)))))
 (pss_cons (ps_if (PW.pt (pw_or (pt_cmp (pc_isN (pv 4))) (pw_or1 (pt_not (pt_val (pe_meth (pv 0) T.cl_Passage T.m_Passage_has_room (ok_Passage_has_room T) (hr.mono (by decide)) T.b_Passage_has_room .nil pass0 (pa_cons (pe_ix ix_tup (pv 2) (pe_gc (by rfl) T.c_CELL) (fun _ _ => rfl)) (pa_cons (pe_fld (pv 4) rfl) pa_nil))))))))
  (pss_one (ps_ret (pe_lst (pa_cons (pe_gc (by rfl) T.c_CANNOT_BE_DONE) (pa_cons (pv 3) pa_nil)))))
  pss_nil)
 (pss_one (ps_set (i := 2) sc_Passage_check.nd rfl (Or.inl rfl) (pe_meth (pv 0) T.cl_Passage T.m_Passage_stand_behind (ok_Passage_stand_behind T) (hr.mono (by decide)) T.b_Passage_stand_behind .nil pass0 (pa_cons (pv 2) (pa_cons (pv 4) pa_nil))))))))
 (pss_one (ps_ret (pe_callTy call_list_of (by rfl) T.z_list bt_list (pa_cons (pv 2) pa_nil))))))), ?_⟩
    have hlen : (nv (Uw32.flat l)).length = 2 * l.length := by rw [nv_length, Pm.flat_len]
    rw [Pm.step_check] at k
    refine (rdM rfl ho rfl ⟨_, rfl, o, a, F, p, l, rfl, hp, hl, fun H1 sm1 => ⟨_, rfl, ?_⟩⟩)
    cases hw : Pm.isWay p l with
    | false =>
      rw [if_pos (Pm.isWay_iff.mpr hw)] at k
      exact iteT ⟨small1 (by show 1 ≤ 1000; decide), fun q hq => k _ q (sm1.trans (same_new hq)) (sm1.free hq) upd_same⟩
    | true =>
      rw [if_neg (fun z => by rw [Pm.isWay_iff.mp z] at hw; cases hw)] at k
      have hw2 : ∀ x ∈ l, x.1 < 8 ∧ x.2 < p.sails.length := by
        unfold Pm.isWay at hw
        simp only [Bool.and_eq_true, List.all_eq_true, decide_eq_true_eq] at hw
        exact fun x hx => ⟨hw.2.1 x hx, hw.2.2 x hx⟩
      have hp1 := hp.same sm1
      refine iteF (rdM rfl (sm1 _ _ ho) rfl ⟨o, F, p, rfl, hp1, fun q hq => ?_⟩)
      have sm2 : Same H (upd H1 q (.tup (tv 0 p.water.boat 0 p.bare))) := sm1.trans (same_new hq)
      have en : (((nv (Uw32.flat l)).length : Nat) : Int) / 2 = (l.length : Int) := by rw [hlen]; omega
      refine ⟨_, rfl, a, _, rfl, .inl (sm2.seq hl), rdC (⟨by decide, by decide⟩) ⟨(l.length : Int), congrArg (fun z => [V.int z]) en, by omega, by omega, for_range (lo := 0) (n := l.length) (CI o a H p l) ⟨none, none, q, 0, _, 0, _, rfl, sm2, upd_same, rfl⟩ ?_ ?_⟩⟩
      · rintro j σ H2 hj ⟨v3, v4, q, t, c, s', b, rfl, sm3, hq2, e2⟩
        have hx : l[j]? = some l[j] := List.getElem?_eq_getElem hj
        have hd : l.drop j = l[j] :: l.drop (j + 1) := List.drop_eq_getElem_cons hj
        generalize hxe : l[j] = x at hx hd
        obtain ⟨x8, xs⟩ := hw2 x (List.mem_of_getElem? hx)
        have a1 : ∀ z : Int, z = 2 * (0 + (j : Int)) → atI (nv (Uw32.flat l)) z = some (.int (x.1 : Nat)) := fun z hz => at_of (j := 2 * j) (by rw [hz]; omega) (by unfold nv; rw [List.getElem?_map, (Pm.flat_get l j).1, hx]; rfl)
        have a2 : ∀ z : Int, z = 2 * (0 + (j : Int)) + 1 → atI (nv (Uw32.flat l)) z = some (.int (x.2 : Nat)) := fun z hz => at_of (j := 1 + 2 * j) (by rw [hz]; omega) (by unfold nv; rw [List.getElem?_map, (Pm.flat_get l j).2, hx]; rfl)
        have cm : ∀ z : Int, CMul 2 z := fun z => .inl ⟨by decide, by decide⟩
        rw [hd] at e2
        have bad : ∀ H3 : Hp, Same H H3 → p.sails_ j t c s' b (x :: l.drop (j + 1)) = .error j → ∀ r, H3 r = none → Q (.ref r) (upd H3 r (.lst [.int (-6), .int (0 + (j : Int))])) := fun H3 sm4 e r hr3 => by
          rw [e2, e] at k
          refine k _ r (sm4.trans (same_new hr3)) (sm4.free hr3) ?_
          rw [upd_same, Int.zero_add]
          rfl
        refine (rdM rfl (sm3 _ _ ho) rfl (rdV rfl (rdXT (SqT.of hq2) rfl (rdV rfl (rdV rfl (rdC (cm _) (rdXL (sm3.seq hl) (a1 _ rfl) (rdV rfl (rdV rfl (rdC (cm _) (rdO (rdXL (sm3.seq hl) (a2 _ rfl) ⟨o, F, p, t, x.1, x.2, rfl, hp.same sm3, g, x8, xs, fun e0 => ?_, fun sd n e0 H3 r sm4 hr4 st4 => ?_⟩))))))))))))
        · refine (rdV rfl ⟨_, rfl, iteT (iteT ⟨_, rfl, small1 (by show 2 ≤ 1000; decide), fun r hr3 => ?_⟩)⟩)
          exact bad H2 sm3 (Pm.sails_bad (Or.inr (Pm.info_none xs e0))) r hr3
        · obtain ⟨dr, hr5⟩ := st4.ex
          have sm5 := sm3.trans sm4
          refine (rdV rfl ⟨_, rfl, iteF (rdM rfl (sm5 _ _ ho) rfl (rdV rfl (rdXT (SqT.of (sm4 _ _ hq2)) rfl (rdF rfl hr5 cs T.n_Step_heading lk_heading ⟨o, F, p, c, x.1, rfl, hp.same sm5, g, x8, _, rfl, ?_⟩))))⟩)
          cases hn : p.water.next c x.1 with
          | none =>
            refine iteT (rdV rfl ⟨small1 (by show 2 ≤ 1000; decide), fun r hr3 => ?_⟩)
            exact bad H3 sm5 (Pm.sails_bad (Or.inl hn)) r hr3
          | some d =>
            refine iteF (rdM rfl (sm5 _ _ ho) rfl (rdV rfl (rdV rfl ⟨o, q, r, F, p, t, c, s', b, x.1, x.2, sd, n, d, rfl, hp.same sm5, sm4 _ _ hq2, st4, x8, hn, fun q2 hq3 => ?_⟩)))
            refine ⟨_, _, q2, _, _, _, _, rfl, sm5.trans (same_new hq3), upd_same, ?_⟩
            rw [e2, Pm.sails_good xs hn e0]
            rfl
      · rintro σ H2 ⟨v3, v4, q, t, c, s', b, rfl, sm3, hq2, e2⟩
        refine (rdV rfl ⟨q, _, rfl, .inr (SqT.of hq2), fun r hr3 => ?_⟩)
        rw [List.drop_length] at e2
        have e3 : p.sails_ l.length t c s' b [] = .ok (t, c, s', b) := rfl
        rw [e2, e3] at k
        exact k _ r (sm3.trans (same_new hr3)) (sm3.free hr3) upd_same
end
end Pa

end
section
set_option Elab.async false
set_option linter.all false
set_option maxRecDepth 100000
set_option maxHeartbeats 2000000
namespace Pm
open Uw32
theorem to_info {p : Pas} {m c s b d sd k : Nat} {x : Mv} (hi : x.2 < p.sails.length) (h1 : p.water.next c x.1 = some d) (h2 : info p m x = some (sd, k)) : to p (m, c, s, b) x = some (later p m s b x.2 sd k, d, (if sd = 0 then s else sd), x.2) := by
  have e : sd = Uw28.side x.1 (p.water.wind m) := by
    unfold info at h2
    split at h2
    · cases h2
    · exact (congrArg Prod.fst (Option.some.inj h2)).symm
  have hs : p.step_ m s b x.1 x.2 = some (k + (if tn s sd = true then p.water.turn else 0) + (if x.2 ≠ b then p.change else 0)) := by
    rw [step_info hi, h2]
    rfl
  unfold to go
  simp only [h1, hs]
  unfold later Uw28.sideOf
  rw [← e, Nat.add_assoc, Nat.add_assoc, Nat.add_assoc]
theorem to_none {p : Pas} {m c s b : Nat} {x : Mv} (h : p.water.next c x.1 = none) : to p (m, c, s, b) x = none := by
  unfold to go
  simp only [h]
theorem to_opt {p : Pas} (g : Good p) {s s2 : Sd} {x : Mv} (v : Val p s) (h : to p s x = some s2) : ∃ q, (x, q) ∈ opt p s.1 p.moves := by
  obtain ⟨_, h8, hl⟩ := to_val g v h
  obtain ⟨d, k, _, _, _, hk⟩ := to_go h
  rw [step_info hl] at hk
  cases e : info p s.1 x with
  | none =>
    have : info p s.1 (x.1, x.2) = none := e
    rw [this] at hk
    cases hk
  | some q =>
    refine ⟨q, List.mem_filterMap.mpr ⟨x, mem_moves h8 hl, ?_⟩⟩
    rw [e]
    rfl
theorem opt_mem {p : Pas} {m : Nat} {z : (Nat × Nat) × (Nat × Nat)} (h : z ∈ opt p m p.moves) : z.1.1 < 8 ∧ z.1.2 < p.sails.length ∧ info p m z.1 = some z.2 := by
  obtain ⟨x, hx, e⟩ := List.mem_filterMap.mp h
  obtain ⟨h1, h2⟩ := moves_mem hx
  cases e2 : info p m x with
  | none => rw [e2] at e; cases e
  | some q =>
    rw [e2] at e
    have e : (x, q) = z := Option.some.inj e
    subst e
    exact ⟨h1, h2, e2⟩
end Pm
namespace Pa
open PySem PySem.Spec PyProof.Rows L2
noncomputable abbrev ks (s : Pm.Sd) : List Key := kst s.1 s.2.1 s.2.2.1 s.2.2.2
theorem ks_inj {s s' : Pm.Sd} (h : ks s = ks s') : s = s' := by
  obtain ⟨a, b, c, d⟩ := s
  obtain ⟨a', b', c', d'⟩ := s'
  unfold ks kst at h
  injection h with h1 h
  injection h with h2 h
  injection h with h3 h
  injection h with h4 _
  have h1 := Sum.inl.inj h1
  have h2 := Sum.inl.inj h2
  have h3 := Sum.inl.inj h3
  have h4 := Sum.inl.inj h4
  simp only at h1 h2 h3 h4
  have e1 : a = a' := by omega
  have e2 : b = b' := by omega
  have e3 : c = c' := by omega
  have e4 : d = d' := by omega
  subst e1 e2 e3 e4
  rfl
section
variable {κ : Type} [DecidableEq κ]
theorem mem_putK {kvs : List (κ × V)} {k k0 : κ} {v v0 : V} (h : (k, v) ∈ putK kvs k0 v0) : (k = k0 ∧ v = v0) ∨ ((k, v) ∈ kvs ∧ k ≠ k0) := by
  unfold putK at h
  by_cases a : (kvs.any fun kv => decide (kv.1 = k0)) = true
  · rw [if_pos a] at h
    obtain ⟨p, hp, e⟩ := List.mem_map.mp h
    by_cases q : p.1 = k0
    · rw [if_pos q] at e
      cases e
      exact .inl ⟨q, rfl⟩
    · rw [if_neg q] at e
      subst e
      exact .inr ⟨hp, q⟩
  · rw [if_neg a] at h
    rcases List.mem_append.mp h with z | z
    · refine .inr ⟨z, fun e => a (List.any_eq_true.mpr ⟨_, z, decide_eq_true e⟩)⟩
    · have z := List.mem_singleton.mp z
      cases z
      exact .inl ⟨rfl, rfl⟩
theorem nodup_putK {kvs : List (κ × V)} {k0 : κ} {v0 : V} (h : (kvs.map (·.1)).Nodup) : ((putK kvs k0 v0).map (·.1)).Nodup := by
  unfold putK
  by_cases a : (kvs.any fun kv => decide (kv.1 = k0)) = true
  · rw [if_pos a, List.map_map]
    have e : ((fun x : κ × V => x.1) ∘ fun kv : κ × V => if kv.1 = k0 then (kv.1, v0) else kv) = fun x => x.1 := by
      funext x
      simp only [Function.comp_apply]
      split <;> rfl
    rw [e]
    exact h
  · rw [if_neg a, List.map_append, List.nodup_append]
    refine ⟨h, by simp, fun x hx y hy => ?_⟩
    have hy : y = k0 := List.mem_singleton.mp hy
    subst hy
    intro e
    subst e
    obtain ⟨p, hp, e⟩ := List.mem_map.mp hx
    exact a (List.any_eq_true.mpr ⟨p, hp, decide_eq_true e⟩)
theorem valV_mem {kvs : List (κ × V)} {k : κ} {v : V} (h : valV kvs k = some v) : (k, v) ∈ kvs := by
  unfold valV at h
  cases e : kvs.find? (fun kv => decide (kv.1 = k)) with
  | none => rw [e] at h; cases h
  | some p =>
    rw [e] at h
    have h1 := List.mem_of_find?_eq_some e
    have h2 : p.1 = k := of_decide_eq_true (show decide (p.1 = k) = true from List.find?_some (p := fun kv : κ × V => decide (kv.1 = k)) e)
    have h : p.2 = v := Option.some.inj h
    subst h2 h
    exact h1
theorem mem_valV : ∀ {kvs : List (κ × V)} {k : κ} {v : V}, (kvs.map (·.1)).Nodup → (k, v) ∈ kvs → valV kvs k = some v
  | [], _, _, _, h => by cases h
  | p :: r, k, v, nd, h => by
    rw [List.map_cons, List.nodup_cons] at nd
    rcases List.mem_cons.mp h with e | h
    · subst e
      exact valV_pos rfl
    · rw [valV_neg (fun e => nd.1 (by rw [e]; exact List.mem_map.mpr ⟨_, h, rfl⟩))]
      exact mem_valV nd.2 h
end
theorem nodup_on {α β : Type} {f : α → β} : ∀ {l : List α}, l.Nodup → (∀ a ∈ l, ∀ b ∈ l, f a = f b → a = b) → (l.map f).Nodup
  | [], _, _ => List.nodup_nil
  | x :: r, nd, h => by
    rw [List.nodup_cons] at nd
    rw [List.map_cons, List.nodup_cons]
    refine ⟨fun z => ?_, nodup_on nd.2 fun a ha b hb e => h a (List.Mem.tail _ ha) b (List.Mem.tail _ hb) e⟩
    obtain ⟨y, hy, e⟩ := List.mem_map.mp z
    have := h y (List.Mem.tail _ hy) x (List.Mem.head _) e
    subst this
    exact nd.1 hy
/-- the dict at d: for each stand a way -/
structure Ent (H : Hp) (d : Addr) (f : Pm.Sd → Option (List Pm.Mv)) : Prop where
  ex : ∃ kvs : List (List Key × V), H d = some (.dT kvs) ∧ (kvs.map (·.1)).Nodup ∧ (∀ k v, (k, v) ∈ kvs → ∃ s a w, k = ks s ∧ v = .ref a ∧ H a = some (.lst (iv (Pm.fl w))) ∧ f s = some w) ∧ ∀ s w, f s = some w → (valV kvs (ks s)).isSome = true
theorem ent_len {p : Pm.Pas} (g : Pm.Good p) {t : Nat} {kvs : List (List Key × V)} {f : Pm.Sd → Option (List Pm.Mv)} (nd : (kvs.map (·.1)).Nodup) (hk : ∀ k v, (k, v) ∈ kvs → ∃ s w, k = ks s ∧ f s = some w) (hv : ∀ s w, f s = some w → s.1 = t ∧ Pm.Val p s) : kvs.length ≤ 192 := by
  let num : List Key → Nat := fun k => match k with
    | [Sum.inl _, Sum.inl c, Sum.inl s, Sum.inl b] => (3 * c.toNat + s.toNat) * 4 + b.toNat
    | _ => 0
  have hks : ∀ s : Pm.Sd, num (ks s) = (3 * s.2.1 + s.2.2.1) * 4 + s.2.2.2 := fun s => by
    show (3 * ((s.2.1 : Nat) : Int).toNat + ((s.2.2.1 : Nat) : Int).toNat) * 4 + ((s.2.2.2 : Nat) : Int).toNat = _
    rw [Int.toNat_natCast, Int.toNat_natCast, Int.toNat_natCast]
  have hmem : ∀ k ∈ kvs.map (·.1), ∃ s, k = ks s ∧ s.1 = t ∧ Pm.Val p s := fun k hk' => by
    obtain ⟨⟨k1, v1⟩, hp, e⟩ := List.mem_map.mp hk'
    obtain ⟨s, w, e1, e2⟩ := hk k1 v1 hp
    exact ⟨s, by rw [← e1]; exact e.symm, hv s w e2⟩
  have hb : p.bare ≤ 3 := g.sn
  have hcells : p.water.cells ≤ 4 * 4 := Nat.mul_le_mul g.w4 g.h4
  have := nodup_le 192 ((kvs.map (·.1)).map num) (nodup_on nd fun a ha b hb' e => ?_) fun n hn => ?_
  · rw [List.length_map, List.length_map] at this
    exact this
  · obtain ⟨s1, rfl, t1, v1⟩ := hmem a ha
    obtain ⟨s2, rfl, t2, v2⟩ := hmem b hb'
    rw [hks, hks] at e
    have a1 := v1.c
    have a2 := v1.s
    have a3 := v1.b
    have b1 := v2.c
    have b2 := v2.s
    have b3 := v2.b
    have : s1 = s2 := by
      obtain ⟨m1, c1, d1, e1⟩ := s1
      obtain ⟨m2, c2, d2, e2⟩ := s2
      simp only at *
      have : m1 = m2 := by omega
      have : c1 = c2 := by omega
      have : d1 = d2 := by omega
      have : e1 = e2 := by omega
      subst_vars
      simp_all
    rw [this]
  · obtain ⟨k, hk', rfl⟩ := List.mem_map.mp hn
    obtain ⟨s1, rfl, t1, v1⟩ := hmem k hk'
    rw [hks]
    have a1 := v1.c
    have a2 := v1.s
    have a3 := v1.b
    omega
/-- all the dicts, by minutes -/
structure Tabs (H : Hp) (ds : List Addr) (get : Nat → Pm.Sd → Option (List Pm.Mv)) : Prop where
  len : ds.length = 41
  nd : ds.Nodup
  tab : ∀ (t : Nat) (d : Addr), ds[t]? = some d → Ent H d (get t)
theorem Ent.keep {H H' : Hp} {d : Addr} {f : Pm.Sd → Option (List Pm.Mv)} (h : Ent H d f) (hd : ∀ kvs, H d = some (.dT kvs) → H' d = some (.dT kvs)) (k : ∀ a xs, H a = some (.lst xs) → H' a = some (.lst xs)) : Ent H' d f := by
  obtain ⟨kvs, e1, e2, e3, e4⟩ := h.ex
  refine ⟨kvs, hd _ e1, e2, fun q v hq => ?_, e4⟩
  obtain ⟨s, a, w, z1, z2, z3, z4⟩ := e3 q v hq
  exact ⟨s, a, w, z1, z2, k _ _ z3, z4⟩
theorem Tabs.same {H H' : Hp} {ds : List Addr} {get : Nat → Pm.Sd → Option (List Pm.Mv)} (h : Tabs H ds get) (s : Same H H') : Tabs H' ds get :=
  ⟨h.len, h.nd, fun t d e => (h.tab t d e).keep (fun kvs z => s _ _ z) fun a xs z => s _ _ z⟩
theorem Tabs.dict {H : Hp} {ds : List Addr} {get : Nat → Pm.Sd → Option (List Pm.Mv)} (h : Tabs H ds get) {d : Addr} (hd : d ∈ ds) : ∃ kvs, H d = some (.dT kvs) := by
  obtain ⟨t, ht⟩ := List.mem_iff_getElem?.mp hd
  obtain ⟨kvs, e, _⟩ := (h.tab t d ht).ex
  exact ⟨kvs, e⟩
theorem Tabs.off {H : Hp} {ds : List Addr} {get : Nat → Pm.Sd → Option (List Pm.Mv)} (h : Tabs H ds get) {b : Addr} {u : HO} (hb : H b = some u) (hu : ∀ kvs, u ≠ .dT kvs) : ¬ b ∈ ds := fun z => by
  obtain ⟨kvs, e⟩ := h.dict z
  rw [hb] at e
  exact hu kvs (Option.some.inj e)
/-- one way more is kept -/
theorem Tabs.put {H : Hp} {ds : List Addr} {get : Nat → Pm.Sd → Option (List Pm.Mv)} (h : Tabs H ds get) {s2 : Pm.Sd} {w : List Pm.Mv} {d a : Addr} {kvs : List (List Key × V)} (hd : ds[s2.1]? = some d) (e : H d = some (.dT kvs)) (ha : H a = some (.lst (iv (Pm.fl w))))
    (hp : get s2.1 s2 = none ∨ ∃ u, get s2.1 s2 = some u ∧ HT.lexLt (Pm.fl w) (Pm.fl u) = true) : Tabs (upd H d (.dT (putK kvs (ks s2) (.ref a)))) ds (Pm.kept get s2 w) := by
  refine ⟨h.len, h.nd, fun t d' ht => ?_⟩
  have lst : ∀ b xs, H b = some (.lst xs) → (upd H d (.dT (putK kvs (ks s2) (.ref a)))) b = some (.lst xs) := fun b xs hb => by
    rw [upd_ne (ne_of hb e (by intro z; cases z))]; exact hb
  by_cases hdd : t = s2.1
  · subst hdd
    rw [hd] at ht
    have ht := Option.some.inj ht
    subst ht
    obtain ⟨kvs', e1, e2, e3, e4⟩ := (h.tab _ _ hd).ex
    rw [e] at e1
    cases e1
    have kat : Pm.kept get s2 w s2.1 s2 = some w := by
      unfold Pm.kept
      rw [if_pos ⟨rfl, rfl⟩]
      rcases hp with z | ⟨u, z, hl⟩
      · rw [z]
      · rw [z]
        show (if HT.lexLt (Pm.fl w) (Pm.fl u) = true then some w else some u) = some w
        rw [if_pos hl]
    refine ⟨_, upd_same, nodup_putK e2, fun k v hm => ?_, fun s u hs => ?_⟩
    · rcases mem_putK hm with ⟨rfl, rfl⟩ | ⟨hm, hne⟩
      · exact ⟨s2, a, w, rfl, rfl, lst _ _ ha, kat⟩
      · obtain ⟨s, b, u, rfl, rfl, hb, hf⟩ := e3 k v hm
        refine ⟨s, b, u, rfl, rfl, lst _ _ hb, ?_⟩
        unfold Pm.kept
        rw [if_neg (fun z => hne (by rw [z.2]))]
        exact hf
    · rw [valV_put]
      by_cases q : ks s = ks s2
      · rw [if_pos q]; rfl
      · rw [if_neg q]
        unfold Pm.kept at hs
        rw [if_neg (fun z => q (by rw [z.2]))] at hs
        exact e4 s u hs
  · have hne : d' ≠ d := fun z => by
      subst z
      have h1 := (List.getElem?_eq_some_iff.mp ht).1
      have h2 := (List.getElem?_eq_some_iff.mp hd).1
      have e1 := (List.getElem?_eq_some_iff.mp ht).2
      have e2 := (List.getElem?_eq_some_iff.mp hd).2
      have i1 := h.nd.idxOf_getElem t h1
      have i2 := h.nd.idxOf_getElem s2.1 h2
      rw [e1] at i1
      rw [e2] at i2
      exact hdd (i1.symm.trans i2)
    have ef : Pm.kept get s2 w t = get t := by
      funext s
      unfold Pm.kept
      rw [if_neg (fun z => hdd z.1)]
    rw [ef]
    exact (h.tab t d' ht).keep (fun kvs z => by rw [upd_ne hne]; exact z) lst
/-- nothing more is kept -/
theorem Tabs.stay {H : Hp} {ds : List Addr} {get : Nat → Pm.Sd → Option (List Pm.Mv)} (h : Tabs H ds get) {s2 : Pm.Sd} {w u : List Pm.Mv} (hu : get s2.1 s2 = some u) (hl : HT.lexLt (Pm.fl w) (Pm.fl u) = false) : Tabs H ds (Pm.kept get s2 w) := by
  have ef : Pm.kept get s2 w = get := by
    funext t s
    unfold Pm.kept
    by_cases z : t = s2.1 ∧ s = s2
    · rw [if_pos z, hu]
      show (if HT.lexLt (Pm.fl w) (Pm.fl u) = true then some w else some u) = _
      rw [if_neg (by rw [hl]; exact Bool.false_ne_true), z.1, z.2, hu]
    · rw [if_neg z]
  rw [ef]
  exact h
end Pa

end
section
set_option Elab.async false
set_option linter.all false
set_option maxRecDepth 100000
set_option maxHeartbeats 4000000
namespace Pm
open Uw32
theorem TInv.swap {p : Pas} {Dn Dn' : Sd → Mv → Prop} {get : Nat → Sd → Option (List Mv)} (T : TInv p Dn get) (h : ∀ w x s s2, run p (st0 p) w = some s → to p s x = some s2 → (Dn s x ↔ Dn' s x)) : TInv p Dn' get := by
  refine T.congr fun w s hw _ => ?_
  have key : ∀ {A B : Sd → Mv → Prop}, (∀ w x s s2, run p (st0 p) w = some s → to p s x = some s2 → A s x → B s x) → Via p A w → Via p B w := fun hAB hv => by
    rcases hv with hv | ⟨w', x, s', rfl, e2, e3⟩
    · exact .inl hv
    · rw [run_snoc, e2] at hw
      exact .inr ⟨w', x, s', rfl, e2, hAB w' x s' s e2 hw e3⟩
  exact ⟨key fun w x s s2 a b => (h w x s s2 a b).mp, key fun w x s s2 a b => (h w x s s2 a b).mpr⟩
end Pm
namespace Pa
open PySem PySem.Spec PyProof.Rows L2
/-- all but the dicts is kept -/
noncomputable def Fx (ds : List Addr) (H H' : Hp) : Prop := ∀ b u, H b = some u → ¬ b ∈ ds → H' b = some u
theorem Fx.refl (ds : List Addr) (H : Hp) : Fx ds H H := fun b u h _ => h
theorem Fx.trans {ds : List Addr} {H H1 H2 : Hp} (a : Fx ds H H1) (b : Fx ds H1 H2) : Fx ds H H2 := fun c u h n => b c u (a c u h n) n
theorem same_fx {ds : List Addr} {H H' : Hp} (s : Same H H') : Fx ds H H' := fun b u h _ => s b u h
theorem fx_upd {ds : List Addr} {H : Hp} {d : Addr} {u : HO} (hd : d ∈ ds) : Fx ds H (upd H d u) := fun b v h n => by
  rw [upd_ne (fun z => n (by rw [z]; exact hd))]; exact h
/-- all but dicts with tuple keys -/
noncomputable def Kx (H H' : Hp) : Prop := ∀ b u, H b = some u → (∀ kvs, u ≠ .dT kvs) → H' b = some u
theorem PasAt.kx {C : Addr} {H H' : Hp} {o : Addr} {F : List Addr} {p : Pm.Pas} (x : PasAt C H o F p) (s : Kx H H') : PasAt C H' o F p := by
  obtain ⟨dx, sh, wr, sr, sm, sl, eF, ho, hsh, hwr, hsr, hsm, ⟨xs, hsl, hxs⟩, d1, d2, d3⟩ := x.ex
  exact ⟨dx, sh, wr, sr, sm, sl, eF, s _ _ ho (fun _ z => nomatch z), s _ _ hsh (fun _ z => nomatch z), s _ _ hwr (fun _ z => nomatch z), s _ _ hsr (fun _ z => nomatch z), s _ _ hsm (fun _ z => nomatch z), ⟨xs, s _ _ hsl (fun _ z => nomatch z), hxs.keep fun a ys h => s _ _ h (fun _ z => nomatch z)⟩, d1, d2, d3⟩
theorem Tabs.kx {H H' : Hp} {ds : List Addr} {get : Nat → Pm.Sd → Option (List Pm.Mv)} (h : Tabs H ds get) (f : Fx ds H H') : Kx H H' := fun b u hb hu => f b u hb (h.off hb hu)
/-- the stands of the minute that are done -/
noncomputable def DO (m : Nat) (kvs : List (List Key × V)) (j : Nat) : Pm.Sd → Pm.Mv → Prop := fun s _ => s.1 < m ∨ ∃ i v, i < j ∧ kvs[i]? = some (ks s, v)
noncomputable def DI (m : Nat) (kvs : List (List Key × V)) (j : Nat) (s0 : Pm.Sd) (os : List ((Nat × Nat) × (Nat × Nat))) (n : Nat) : Pm.Sd → Pm.Mv → Prop := fun s x => DO m kvs j s x ∨ (s = s0 ∧ ∃ i q, i < n ∧ os[i]? = some (x, q))
/-- between two pairs of the minute's list; between two steps of one -/
noncomputable def LO (o W L : Addr) (m : Nat) (ds : List Addr) (H2 : Hp) (get : Nat → Pm.Sd → Option (List Pm.Mv)) (p : Pm.Pas) (kvs : List (List Key × V)) (j : Nat) (σ : L2.St) (H3 : Hp) : Prop := ∃ (v4 v5 v6 v7 : Option V) (get3 : Nat → Pm.Sd → Option (List Pm.Mv)), σ = [some (.ref o), some (.ref W), some (.int m), some (.ref L), v4, v5, v6, v7] ∧ Fx ds H2 H3 ∧ Tabs H3 ds get3 ∧ (∀ s, get3 m s = get m s) ∧ Pm.TInv p (DO m kvs j) get3
noncomputable def LN (o W L q a : Addr) (m : Nat) (ds : List Addr) (H2 : Hp) (get : Nat → Pm.Sd → Option (List Pm.Mv)) (p : Pm.Pas) (kvs : List (List Key × V)) (j : Nat) (s0 : Pm.Sd) (n : Nat) (σ : L2.St) (H4 : Hp) : Prop := ∃ (v6 v7 : Option V) (get4 : Nat → Pm.Sd → Option (List Pm.Mv)), σ = [some (.ref o), some (.ref W), some (.int m), some (.ref L), some (.ref q), some (.ref a), v6, v7] ∧ Fx ds H2 H4 ∧ Tabs H4 ds get4 ∧ (∀ s, get4 m s = get m s) ∧ Pm.TInv p (DI m kvs j s0 (Pm.opt p m p.moves) n) get4
section
variable {P : Program} {w : World} {K : PySem.W.Frag} {mg : Str → Option Value} {base : Heap} {D : Adr}
noncomputable def sp_lengthen (D : Adr) : Sp := fun vs H Q _ => ∃ (o W : Addr) (F : List Addr) (p : Pm.Pas) (m : Nat) (ds : List Addr) (get : Nat → Pm.Sd → Option (List Pm.Mv)), vs = [.ref o, .ref W, .int m] ∧ PasAt D.C_Passage H o F p ∧ Pm.Good p ∧ m ≤ 40 ∧
  H W = some (.lst (ds.map V.ref)) ∧ Tabs H ds get ∧ Pm.TInv p (Pm.Bf m) get ∧ ∀ H' get', Fx ds H H' → Tabs H' ds get' → Pm.TInv p (Pm.Bf (m + 1)) get' → Q .non H'
theorem ok_Passage_lengthen (T : Txt K mg D) : FnOk P w K mg base CX0 6 D.f_Passage_lengthen D.d_Passage_lengthen ["self", "ways", "minute"] (sp_lengthen D) := by
  refine T.F_Passage_lengthen.ok sc_Passage_lengthen (fun vs H Q E h => ?_) (fun cdv A outer s H vs Q E hr h => ?_)
  · obtain ⟨o, W, F, p, m, ds, get, rfl, _⟩ := h
    rfl
  · obtain ⟨o, W, F, p, m, ds, get, rfl, hp, g, h40, hW, tb, ti, k⟩ := h
    have cl := T.cl_Passage
    have cs := T.cl_Step
    obtain ⟨dx, sh, wr, sr, sm, sl, eF, ho, _⟩ := hp.ex
    refine ⟨_, (pss_cons (ps_set (i := 3) sc_Passage_lengthen.nd rfl (Or.inl rfl) (pe_meth (pv 0) T.cl_Passage T.m_Passage_steps_at (ok_Passage_steps_at T) (hr.mono (by decide)) T.b_Passage_steps_at .nil pass0 (pa_cons (pv 2) pa_nil)))
 (pss_one (ps_for PassesOwn.never rfl (pi_list (pe_callTy (call_listItems rfl) (by rfl) T.z_list bt_list (pa_cons (pe_items (pe_ix ix_list (pv 1) (pv 2) (fun _ _ => rfl))) pa_nil))) (pg_tup rfl (pgs_cons (pg_name (i := 4) sc_Passage_lengthen.nd rfl (Or.inl rfl)) (pgs_cons (pg_name (i := 5) sc_Passage_lengthen.nd rfl (Or.inl rfl)) pgs_nil)))
  (pss_one (ps_for PassesOwn.never rfl (pi_list (pv 3)) (pg_name (i := 6) sc_Passage_lengthen.nd rfl (Or.inl rfl))
  (pss_one (ps_if (pt_val (pe_meth (pv 0) T.cl_Passage T.m_Passage_has_room (ok_Passage_has_room T) (hr.mono (by decide)) T.b_Passage_has_room .nil pass0 (pa_cons (pe_ix ix_tup (pv 4) (pe_gc (by rfl) T.c_CELL) (fun _ _ => rfl)) (pa_cons (pe_fld (pv 6) rfl) pa_nil))))
  (pss_cons (ps_set (i := 7) sc_Passage_lengthen.nd rfl (Or.inl rfl) (pe_meth (pv 0) T.cl_Passage T.m_Passage_stand_behind (ok_Passage_stand_behind T) (hr.mono (by decide)) T.b_Passage_stand_behind .nil pass0 (pa_cons (pv 4) (pa_cons (pv 6) pa_nil))))
 (pss_one (ps_if (pt_cmpR op_le (pe_ix ix_tup (pv 7) (pe_gc (by rfl) T.c_MINUTE) (fun _ _ => rfl)) (pe_gc (by rfl) T.c_LAST_MINUTE) (nomark _))
  (pss_one (ps_expr (pe_call (ok_keep_earlier T) (hr.mono (by decide)) (by rfl) T.g_keep_earlier T.F_keep_earlier.kp T.b_keep_earlier .nil pass0 (pa_cons (pe_ix ix_list (pv 1) (pe_ix ix_tup (pv 7) (pe_gc (by rfl) T.c_MINUTE) (fun _ _ => rfl)) (fun _ _ => rfl)) (pa_cons (pv 7) (pa_cons (pe_op op_cat (pv 5) (pe_lst (pa_cons (pe_fld (pv 6) rfl) (pa_cons (pe_fld (pv 6) rfl) pa_nil)))) pa_nil))))))
  pss_nil)))
  pss_nil))))))), ?_⟩
    refine (rdM rfl ho rfl (rdV rfl ⟨o, F, p, m, rfl, hp, g, fun H1 L rs sm1 hL hl1 st1 => ?_⟩))
    -- list(ways[minute].items())
    obtain ⟨d, hd⟩ : ∃ d, ds[m]? = some d := ⟨ds[m]'(by rw [tb.len]; omega), List.getElem?_eq_getElem _⟩
    obtain ⟨kvs, ed, nd, en3, en4⟩ := (tb.tab m d hd).ex
    have atd : ∀ (t : Nat) (d : Addr), ds[t]? = some d → ∀ z : Int, z = (t : Nat) → atI (ds.map V.ref) z = some (.ref d) := fun t d h z hz => at_of hz (by rw [List.getElem?_map, h]; rfl)
    refine ⟨_, rfl, _, rfl, rdXL (v := .ref d) (SqL.of (sm1 _ _ hW)) (atd m d hd _ rfl) ⟨d, kvs, rfl, sm1 _ _ ed, fun v hv => ?_⟩⟩
    refine ⟨v, d, kvs, rfl, upd_same, (by rw [upd_ne (ne_of_none (sm1 _ _ ed) hv)]; exact sm1 _ _ ed), fun H2 Lp as sm2 hLp hlp hal hpr => ?_⟩
    have smb : Same H H2 := sm1.trans ((same_new hv).trans sm2)
    have smb1 : Same H1 H2 := (same_new hv).trans sm2
    have tbb := tb.same smb
    have stb : StepsAt D.C_Step H2 rs (Pm.opt p m p.moves) := st1.keep fun r C dx fs e => smb1 _ _ e
    have hpb := hp.same smb
    have hlb := smb1 _ _ hl1
    have hWb := smb _ _ hW
    have hk0 : ∀ (j : Nat) (kk : List Key) (vv : V), kvs[j]? = some (kk, vv) → ∃ (s0 : Pm.Sd) (a : Addr) (w0 : List Pm.Mv), kk = ks s0 ∧ vv = .ref a ∧ H2 a = some (.lst (iv (Pm.fl w0))) ∧ get m s0 = some w0 := fun j kk vv h => by
      obtain ⟨s0, a, w0, e1, e2, e3, e4⟩ := en3 kk vv (List.mem_of_getElem? h)
      exact ⟨s0, a, w0, e1, e2, smb _ _ e3, e4⟩
    refine ⟨Lp, rfl, ⟨_, SqL.of hlp⟩, for_list (a := Lp) (xs := as.map V.ref) (LO o W L m ds H2 get p kvs) ?_ ?_ ?_ ?_⟩
    · refine ⟨none, none, none, none, get, rfl, Fx.refl _ _, tbb, fun _ => rfl, ti.swap fun w x s s2 _ _ => ⟨fun z => .inl z, fun z => ?_⟩⟩
      rcases z with z | ⟨i, v, hi, _⟩
      · exact z
      · exact absurd hi (Nat.not_lt_zero _)
    · rintro j σ H3 _ ⟨v4, v5, v6, v7, get3, rfl, fx, _⟩
      exact SqL.of (tbb.kx fx _ _ hlp (fun _ z => nomatch z))
    · rintro j x σ H3 hj ⟨v4, v5, v6, v7, get3, rfl, fx, tb3, gm3, ti3⟩
      obtain ⟨aj, haj, rfl⟩ : ∃ aj, as[j]? = some aj ∧ x = .ref aj := by
        rw [List.getElem?_map] at hj
        cases e : as[j]? with
        | none => rw [e] at hj; cases hj
        | some aj => rw [e] at hj; exact ⟨aj, rfl, (Option.some.inj hj).symm⟩
      have hjl : j < kvs.length := by
        have := (List.getElem?_eq_some_iff.mp haj).1
        omega
      have hkv : kvs[j]? = some kvs[j] := List.getElem?_eq_getElem hjl
      generalize kvs[j] = kv at hkv
      obtain ⟨kk, vv⟩ := kv
      obtain ⟨s0, a, w0, rfl, rfl, ha, hg0⟩ := hk0 j kk vv hkv
      obtain ⟨q, hq, _, hpj⟩ := hpr j aj (ks s0) (.ref a) haj hkv
      have kx3 := tbb.kx fx
      have hq2 : H2 q = some (.tup (tv s0.1 s0.2.1 s0.2.2.1 s0.2.2.2)) := sm2 _ _ hq
      obtain ⟨e0m, e0r, _⟩ := ti.sound _ _ _ h40 hg0
      have va0 := Pm.run_val g (Pm.val0 g) e0r
      refine ⟨aj, _, rfl, SqT.of (kx3 _ _ hpj (fun _ z => nomatch z)), rfl, _, _, rfl, _, _, rfl, rfl, ?_⟩
      refine ⟨_, rfl, L, rfl, ⟨_, SqL.of (kx3 _ _ hlb (fun _ z => nomatch z))⟩, for_list (a := L) (xs := rs.map V.ref) (LN o W L q a m ds H2 get p kvs j s0) ?_ ?_ ?_ ?_⟩
      · refine ⟨v6, v7, get3, rfl, fx, tb3, gm3, ti3.swap fun w x s s2 _ _ => ⟨fun z => .inl z, fun z => ?_⟩⟩
        rcases z with z | ⟨_, i, v, hi, _⟩
        · exact z
        · exact absurd hi (Nat.not_lt_zero _)
      · rintro n σ H4 _ ⟨v6, v7, get4, rfl, fx4, _⟩
        exact SqL.of (tbb.kx fx4 _ _ hlb (fun _ z => nomatch z))
      · rintro n x σ H4 hn ⟨v6, v7, get4, rfl, fx4, tb4, gm4, ti4⟩
        obtain ⟨r, hrn, rfl⟩ : ∃ r, rs[n]? = some r ∧ x = .ref r := by
          rw [List.getElem?_map] at hn
          cases e : rs[n]? with
          | none => rw [e] at hn; cases hn
          | some r => rw [e] at hn; exact ⟨r, rfl, (Option.some.inj hn).symm⟩
        obtain ⟨z, hz, hst⟩ := stb.get n r hrn
        obtain ⟨⟨hh, ii⟩, ⟨sd, kk⟩⟩ := z
        obtain ⟨h8, hil, hinf⟩ := Pm.opt_mem (List.mem_of_getElem? hz)
        have kx4 := tbb.kx fx4
        obtain ⟨dr, hr2⟩ := hst.ex
        have hr4 := kx4 _ _ hr2 (fun _ z => nomatch z)
        have hst4 : StepAt D.C_Step H4 r hh ii sd kk := ⟨dr, hr4⟩
        have ho4 := kx4 _ _ (smb _ _ ho) (fun _ z => nomatch z)
        have hq4 := kx4 _ _ hq2 (fun _ z => nomatch z)
        have ha4 := kx4 _ _ ha (fun _ z => nomatch z)
        have hp4 := hpb.kx kx4
        have hW4 := kx4 _ _ hWb (fun _ z => nomatch z)
        -- what is done then
        have nxt : ∀ get5, Pm.TInv p (Pm.plus (DI m kvs j s0 (Pm.opt p m p.moves) n) s0 (hh, ii)) get5 → Pm.TInv p (DI m kvs j s0 (Pm.opt p m p.moves) (n + 1)) get5 := fun get5 T5 => T5.swap fun w x s s2 _ _ => by
          constructor
          · rintro ((z | ⟨e, i, q, hi, ho⟩) | ⟨e1, e2⟩)
            · exact .inl z
            · exact .inr ⟨e, i, q, Nat.lt_succ_of_lt hi, ho⟩
            · exact .inr ⟨e1, n, _, Nat.lt_succ_self _, by rw [e2]; exact hz⟩
          · rintro (z | ⟨e, i, q, hi, ho⟩)
            · exact .inl (.inl z)
            · by_cases hin : i = n
              · subst hin
                rw [hz] at ho
                have ho := Option.some.inj ho
                exact .inr ⟨e, (congrArg Prod.fst ho).symm⟩
              · exact .inl (.inr ⟨e, i, q, by omega, ho⟩)
        have closed : ∀ w', Pm.run p (Pm.st0 p) w' = some s0 → Pm.Via p (DI m kvs j s0 (Pm.opt p m p.moves) n) w' := fun w' hw' => Pm.via_bf g (m := m) (fun s x z => .inl (.inl z)) hw' (by omega)
        refine (rdM rfl ho4 rfl (rdV rfl (rdXT (SqT.of hq4) rfl (rdF rfl hr4 cs T.n_Step_heading lk_heading ⟨o, F, p, s0.2.1, hh, rfl, hp4, g, h8, _, rfl, ?_⟩))))
        cases hnx : p.water.next s0.2.1 hh with
        | none =>
          refine iteF ⟨_, _, get4, rfl, fx4, tb4, gm4, nxt _ (ti4.skip fun s2 z => ?_)⟩
          obtain ⟨m0, c0, d0, b0⟩ := s0
          rw [Pm.to_none hnx] at z
          cases z
        | some dd =>
          have hto : Pm.to p s0 (hh, ii) = some (Pm.later p m s0.2.2.1 s0.2.2.2 ii sd kk, dd, (if sd = 0 then s0.2.2.1 else sd), ii) := by
            obtain ⟨m0, c0, d0, b0⟩ := s0
            have : m0 = m := e0m
            subst this
            exact Pm.to_info (x := (hh, ii)) hil hnx hinf
          refine iteT (rdM rfl ho4 rfl (rdV rfl (rdV rfl ⟨o, q, r, F, p, m, s0.2.1, s0.2.2.1, s0.2.2.2, hh, ii, sd, kk, dd, rfl, hp4, (by rw [← e0m]; exact hq4), hst4, h8, hnx, fun t ht => ?_⟩)))
          generalize hs2 : ((Pm.later p m s0.2.2.1 s0.2.2.2 ii sd kk, dd, (if sd = 0 then s0.2.2.1 else sd), ii) : Pm.Sd) = s2 at hto
          have etv : tv (Pm.later p m s0.2.2.1 s0.2.2.2 ii sd kk) dd (sdb s0.2.2.1 sd) ii = tv s2.1 s2.2.1 s2.2.2.1 s2.2.2.2 := by rw [← hs2]; rfl
          have es1 : Pm.later p m s0.2.2.1 s0.2.2.2 ii sd kk = s2.1 := by rw [← hs2]
          rw [etv]
          have smt : Same H4 (upd H4 t (.tup (tv s2.1 s2.2.1 s2.2.2.1 s2.2.2.2))) := same_new ht
          refine ⟨_, rfl, rdXT (SqT.of upd_same) rfl (rdO ⟨_, rfl, ?_⟩)⟩
          by_cases h2 : s2.1 ≤ 40
          · refine iteT' (decide_eq_true (by omega)) ?_
            obtain ⟨d2, hd2⟩ : ∃ d, ds[s2.1]? = some d := ⟨ds[s2.1]'(by rw [tb.len]; omega), List.getElem?_eq_getElem _⟩
            obtain ⟨kv2, ed2, nd2, en32, en42⟩ := (tb4.tab s2.1 d2 hd2).ex
            have fw : (Pm.fl w0).length = 2 * w0.length := by
              unfold Pm.fl
              rw [Pm.ints_length, Pm.flat_len]
            have hw40 := Pm.run_min g e0r
            have hlen0 : w0.length ≤ 40 := by omega
            refine (rdV rfl (rdV rfl (rdXT (SqT.of upd_same) rfl (rdXL (v := .ref d2) (SqL.of (smt _ _ hW4)) (atd s2.1 d2 hd2 _ rfl) (rdV rfl (rdV rfl (rdF rfl (smt _ _ hr4) cs T.n_Step_heading lk_heading (rdF rfl (smt _ _ hr4) cs T.n_Step_with_sail lk_with_sail ⟨small1 (by show 2 ≤ 1000; decide), fun l1 hl1' => ?_⟩))))))))
            have sm5 := smt.trans (same_new (u := .lst [.int hh, .int ii]) hl1')
            refine ⟨a, l1, _, _, rfl, rfl, sm5 _ _ ha4, upd_same, small1 (by unfold iv; rw [List.length_map, fw]; show 2 * w0.length + 2 ≤ 1000; omega), fun a3 ha3 => ?_⟩
            have eiv : iv (Pm.fl w0) ++ [V.int hh, V.int ii] = iv (Pm.fl (w0 ++ [(hh, ii)])) := by
              rw [Pm.fl_append]
              unfold iv
              rw [List.map_append]
              rfl
            rw [eiv]
            have sm6 := sm5.trans (same_new (u := .lst (iv (Pm.fl (w0 ++ [(hh, ii)])))) ha3)
            have tb6 := tb4.same sm6
            have g00 : get4 s0.1 s0 = some w0 := by rw [e0m, gm4]; exact hg0
            have s0m : s0.1 < s2.1 := Pm.to_min g hto
            have gm5 : ∀ s, Pm.kept get4 s2 (w0 ++ [(hh, ii)]) m s = get m s := fun s => by
              unfold Pm.kept
              rw [if_neg (fun z => by omega)]
              exact gm4 s
            have ti5 := nxt _ (ti4.put g (by omega) g00 closed hto h2)
            have hkv2 : kv2.length ≤ 192 := ent_len (p := p) (t := s2.1) g nd2 (fun k v hm => by obtain ⟨s, a, w, e1, _, _, e4⟩ := en32 k v hm; exact ⟨s, w, e1, e4⟩) fun s w hs => by
              obtain ⟨e1, e2, _⟩ := ti4.sound _ _ _ h2 hs
              exact ⟨e1, Pm.run_val g (Pm.val0 g) e2⟩
            have ed6 := sm6 _ _ ed2
            have fin : ∀ H7, Fx ds H4 H7 → Tabs H7 ds (Pm.kept get4 s2 (w0 ++ [(hh, ii)])) → LN o W L q a m ds H2 get p kvs j s0 (n + 1) [some (.ref o), some (.ref W), some (.int m), some (.ref L), some (.ref q), some (.ref a), some (.ref r), some (.ref t)] H7 := fun H7 f7 t7 =>
              ⟨_, _, _, rfl, fx4.trans f7, t7, gm5, ti5⟩
            refine ⟨d2, t, a3, kv2, ks s2, Pm.fl (w0 ++ [(hh, ii)]), rfl, ed6, small1000 (by omega), (same_new (u := .lst [.int hh, .int ii]) hl1').trans (same_new (u := .lst (iv (Pm.fl (w0 ++ [(hh, ii)])))) ha3) _ _ upd_same, upd_same, fun hnone => ?_, fun v hv => ?_⟩
            · refine fin _ ((same_fx sm6).trans (fx_upd (List.mem_of_getElem? hd2))) (tb6.put hd2 ed6 upd_same (.inl ?_))
              cases hgs : get4 s2.1 s2 with
              | none => rfl
              | some u =>
                have := en42 s2 u hgs
                rw [hnone] at this
                cases this
            · obtain ⟨s', b, u, e1, rfl, hb, hgu⟩ := en32 _ _ (valV_mem hv)
              have := ks_inj e1
              subst this
              refine ⟨b, Pm.fl u, rfl, sm6 _ _ hb, fun hlt => ?_, fun hlt => ?_⟩
              · exact fin _ ((same_fx sm6).trans (fx_upd (List.mem_of_getElem? hd2))) (tb6.put hd2 ed6 upd_same (.inr ⟨u, hgu, hlt⟩))
              · exact fin _ (same_fx sm6) (tb6.stay hgu hlt)
          · refine iteF' (decide_eq_false (by omega)) ⟨_, _, get4, rfl, fx4.trans (same_fx smt), tb4.same smt, gm4, nxt _ (ti4.skip fun s3 z => ?_)⟩
            rw [hto] at z
            have z := Option.some.inj z
            subst z
            omega
      · rintro σ H4 ⟨v6, v7, get4, rfl, fx4, tb4, gm4, ti4⟩
        refine ⟨_, _, _, _, get4, rfl, fx4, tb4, gm4, ti4.swap fun w x s s2 hw hto => ⟨?_, ?_⟩⟩
        · rintro ((z | ⟨i, v, hi, ho⟩) | ⟨e, _⟩)
          · exact .inl z
          · exact .inr ⟨i, v, Nat.lt_succ_of_lt hi, ho⟩
          · exact .inr ⟨j, _, Nat.lt_succ_self _, by rw [e]; exact hkv⟩
        · rintro (z | ⟨i, v, hi, ho⟩)
          · exact .inl (.inl z)
          · by_cases hij : i = j
            · subst hij
              rw [hkv] at ho
              have es := ks_inj (congrArg Prod.fst (Option.some.inj ho))
              subst es
              obtain ⟨qq, hqq⟩ := Pm.to_opt g va0 hto
              rw [e0m] at hqq
              obtain ⟨i2, hi2⟩ := List.mem_iff_getElem?.mp hqq
              have hi3 := (List.getElem?_eq_some_iff.mp hi2).1
              refine .inr ⟨rfl, i2, qq, ?_, hi2⟩
              rw [List.length_map, stb.len]
              exact hi3
            · exact .inl (.inr ⟨i, v, by omega, ho⟩)
    · rintro σ H3 ⟨v4, v5, v6, v7, get3, rfl, fx, tb3, gm3, ti3⟩
      refine k H3 get3 (fun b u hb hn => fx b u (smb _ _ hb) hn) tb3 (ti3.minute g (fun s x z => .inl z) (fun s x w s2 hs hw hto => ?_) fun s x z => ?_)
      · obtain ⟨w', hw'⟩ := ti.full s w hw (Pm.via_bf g (fun _ _ z => z) hw (by omega)) (by omega)
        rw [hs] at hw'
        have := en4 s w' hw'
        obtain ⟨v, hv⟩ := Option.isSome_iff_exists.mp this
        obtain ⟨i, hi⟩ := List.mem_iff_getElem?.mp (valV_mem hv)
        have hil := (List.getElem?_eq_some_iff.mp hi).1
        exact .inr ⟨i, v, by rw [List.length_map, hal]; exact hil, hi⟩
      · rcases z with z | ⟨i, v, _, hi⟩
        · omega
        · obtain ⟨s', a, w0, e1, _, _, e4⟩ := en3 _ _ (List.mem_of_getElem? hi)
          have := ks_inj e1
          subst this
          obtain ⟨e5, _⟩ := ti.sound _ _ _ h40 e4
          omega
end
end Pa

end
section
set_option Elab.async false
set_option linter.all false
set_option maxRecDepth 100000
set_option maxHeartbeats 4000000
namespace Pa
open PySem PySem.Spec PyProof.Rows L2
/-- whether a stand is at the mark -/
noncomputable def mk (p : Pm.Pas) (k : List Key) : Bool := decide (k[1]? = some (Sum.inl ((p.water.mark : Nat) : Int)))
theorem mk_ks {p : Pm.Pas} {s : Pm.Sd} : mk p (ks s) = decide (s.2.1 = p.water.mark) := by
  unfold mk ks kst
  rw [decide_eq_decide]
  constructor
  · intro h
    have h : (Sum.inl (s.2.1 : Int) : Key) = Sum.inl ((p.water.mark : Nat) : Int) := Option.some.inj h
    have := Sum.inl.inj h
    omega
  · intro h
    rw [h]
    rfl
/-- the ways of the stands at the mark, of these entries -/
noncomputable def sel (p : Pm.Pas) (kvs : List (List Key × V)) : List V := (kvs.filter fun kv => mk p kv.1).map (·.2)
theorem sel_snoc (p : Pm.Pas) {kvs : List (List Key × V)} {i : Nat} {kv : List Key × V} (h : kvs[i]? = some kv) : sel p (kvs.take (i + 1)) = if mk p kv.1 = true then sel p (kvs.take i) ++ [kv.2] else sel p (kvs.take i) := by
  have e : kvs.take (i + 1) = kvs.take i ++ [kv] := by
    obtain ⟨hi, e⟩ := List.getElem?_eq_some_iff.mp h
    rw [List.take_succ_eq_append_getElem hi, e]
  unfold sel
  rw [e, List.filter_append, List.map_append]
  by_cases q : mk p kv.1 = true
  · rw [if_pos q]
    simp [q]
  · rw [if_neg q]
    simp [q]
theorem sel_len (p : Pm.Pas) (kvs : List (List Key × V)) : (sel p kvs).length ≤ kvs.length := by
  unfold sel
  rw [List.length_map]
  exact List.length_filter_le _ _
/-- over the pairs of a locked dict with tuple keys -/
theorem lc_itemsT {d : Addr} {o : Obj} {kvs : List (List Key × V)} {g : TG} {tt : TT} {te : TE} {vs : List Nat} {σ : L2.St} {H1 : Hp} {D : Addr} {Qd : Hp → Prop} (Pv : Nat → Hp → Prop) (h0 : Pv 0 (upd H1 D (.lst []))) (hl : ∀ i H, Pv i H → H d = some (.frz o (.dT kvs)))
    (hs : ∀ i H T q k v, kvs[i]? = some (k, v) → Pv i H → H T = none → H q = some (.tup (k.map kV)) → g (.ref T) (wipe σ vs) (upd H T (.tup [.ref q, v])) fun σ2 H2 => wipe σ2 vs = wipe σ vs ∧ tt σ2 H2 fun b H3 =>
      if b = true then te σ2 H3 fun y H4 => ∃ acc, H4 D = some (.lst acc) ∧ acc.length < sizeLine ∧ Pv (i + 1) (upd H4 D (.lst (acc ++ [y]))) else Pv (i + 1) H3) (hd : ∀ H, Pv kvs.length H → Qd H) :
    ∃ W : Nat → Nat → Hp → Prop, (∃ m, W 0 m (upd H1 D (.lst []))) ∧ ∀ i m H, W i m H →
      ((ItiT d o kvs).stop i H ∧ Qd H) ∨ ((ItiT d o kvs).go i H ∧ ∃ Nx : Hp → Prop, (∀ H', Nx H' → ∃ m', m' < m ∧ W (i + 1) m' H') ∧ ∀ x H', (ItiT d o kvs).yld i H x H' → g x (wipe σ vs) H' fun σ2 H2 => wipe σ2 vs = wipe σ vs ∧ tt σ2 H2 fun b H3 =>
        if b = true then te σ2 H3 fun y H4 => ∃ acc, H4 D = some (.lst acc) ∧ acc.length < sizeLine ∧ Nx (upd H4 D (.lst (acc ++ [y]))) else Nx H3) := by
  refine ⟨fun i m H => m = kvs.length - i ∧ i ≤ kvs.length ∧ Pv i H, ⟨kvs.length, by simp, Nat.zero_le _, h0⟩, ?_⟩
  rintro i m H ⟨rfl, hi, p⟩
  by_cases hlt : i < kvs.length
  · refine .inr ⟨⟨hl i H p, hlt⟩, Pv (i + 1), fun H' p' => ⟨kvs.length - (i + 1), by omega, rfl, hlt, p'⟩, fun x H' y => ?_⟩
    obtain ⟨T, q, k, v, e1, rfl, e2, e3, rfl⟩ := y
    exact hs i H T q k v e1 p e2 e3
  · have e : i = kvs.length := by omega
    subst e
    exact .inl ⟨⟨hl _ H p, Nat.le_refl _⟩, hd H p⟩
/-- the numbers of the list at a -/
noncomputable def cont (H : Hp) (a : Addr) : List Int := match H a with
  | some (.lst xs) => xs.map fun v => match v with
    | .int z => z
    | _ => 0
  | _ => []
theorem cont_iv {H : Hp} {a : Addr} {l : List Int} (h : H a = some (.lst (iv l))) : cont H a = l := by
  unfold cont
  rw [h]
  show (l.map V.int).map _ = l
  rw [List.map_map]
  exact List.map_id l
noncomputable def adr (v : V) : Addr := match v with
  | .ref a => a
  | _ => 0
/-- as the dicts are laid; between two minutes; as the ways at the mark are gathered -/
noncomputable def SW (H : Hp) (W : Addr) (i : Nat) (H1 : Hp) : Prop := ∃ ds : List Addr, ds.length = i ∧ ds.Nodup ∧ Same H H1 ∧ H1 W = some (.lst (ds.map V.ref)) ∧ ∀ d ∈ ds, H d = none ∧ H1 d = some (.dT [])
noncomputable def SI (o W : Addr) (H : Hp) (ds : List Addr) (p : Pm.Pas) (i : Nat) (σ : L2.St) (H3 : Hp) : Prop := ∃ (v2 v3 : Option V) (get : Nat → Pm.Sd → Option (List Pm.Mv)), σ = [some (.ref o), some (.ref W), v2, v3, none, none] ∧ Same H H3 ∧ H3 W = some (.lst (ds.map V.ref)) ∧ Tabs H3 ds get ∧ Pm.TInv p (Pm.Bf i) get ∧ ∀ w s, Pm.run p (Pm.st0 p) w = some s → s.1 < i → s.2.1 ≠ p.water.mark
noncomputable def SE (H3 : Hp) (dm : Addr) (od : Obj) (kvs : List (List Key × V)) (e : Addr) (p : Pm.Pas) (i : Nat) (Hc : Hp) : Prop := Same (upd H3 dm (.frz od (.dT kvs))) Hc ∧ Hc e = some (.lst (sel p (kvs.take i)))
section
variable {P : Program} {w : World} {K : PySem.W.Frag} {mg : Str → Option Value} {base : Heap} {D : Adr}
noncomputable def sp_soonest (D : Adr) : Sp := fun vs H Q _ => ∃ (o : Addr) (F : List Addr) (p : Pm.Pas), vs = [.ref o] ∧ PasAt D.C_Passage H o F p ∧ Pm.Good p ∧
  ∀ (H' : Hp) (r : Addr), Same H H' → H r = none → H' r = some (.lst (iv (Pm.dueS p))) → Q (.ref r) H'
theorem ok_Passage_soonest (T : Txt K mg D) : FnOk P w K mg base CX0 7 D.f_Passage_soonest D.d_Passage_soonest ["self"] (sp_soonest D) := by
  refine T.F_Passage_soonest.ok sc_Passage_soonest (fun vs H Q E h => ?_) (fun cdv A outer s H vs Q E hr h => ?_)
  · obtain ⟨o, F, p, rfl, _⟩ := h
    rfl
  · obtain ⟨o, F, p, rfl, hp, g, k⟩ := h
    have cl := T.cl_Passage
    have hu := hu_of hr
    have hu1 := hu
    obtain ⟨dx, sh, wr, sr, sm, sl, eF, ho, _⟩ := hp.ex
    refine ⟨_, (pss_cons (ps_setLc (i := 1) rfl sc_Passage_soonest.nd rfl (by rfl) (by rfl) (pi_range1 (by rfl) T.z_range (pa_cons (pe_op op_add (pe_gc (by rfl) T.c_LAST_MINUTE) pe_int) pa_nil)) (blkOk_by (own := [("minute", 2)]) (by rfl)) (fun _ _ _ _ _ => (pg_name (i := 2) sc_Passage_soonest.nd rfl (Or.inl rfl))) (fun _ _ _ _ _ => pts_nil) (fun _ _ _ _ _ => pe_dnewT))
 (pss_cons (ps_dput hu (pe_ix ix_list (pv 1) pe_int (fun _ _ => rfl)) (pe_meth0 (pv 0) T.cl_Passage T.m_Passage_first_stand (ok_Passage_first_stand T) (hr.mono (by decide)) T.b_Passage_first_stand .nil pass0) (pe_lst pa_nil) rfl)
 (pss_cons (ps_for PassesOwn.never rfl (pi_range1 (by rfl) T.z_range (pa_cons (pe_op op_add (pe_gc (by rfl) T.c_LAST_MINUTE) pe_int) pa_nil)) (pg_name (i := 2) sc_Passage_soonest.nd rfl (Or.inl rfl))
  (pss_cons (ps_lock (ps_setLc (i := 3) (g := gTup K 2 (gCons (gName 4) (gCons (gName 5) gNil))) (te := tVar 5) (tt := tTest (tOp rEq (tOp (rIxT K) (tVar 4) (tC (.int 1))) (tFld K (tVar 0) "mark_cell"))) rfl sc_Passage_soonest.nd rfl (by rfl) (by rfl) (pi_itemsT (pe_ix ix_list (pv 1) (pv 2) (fun _ _ => rfl))) (blkOk_by (own := [("stand", 4), ("way", 5)]) (by rfl)) (fun _ _ _ _ _ => by exact pg_tup (n := 2) rfl (pgs_cons (pg_name (i := 4) sc_Passage_soonest.nd rfl (Or.inl rfl) (Or.inr rfl)) (pgs_cons (pg_name (i := 5) sc_Passage_soonest.nd rfl (Or.inl rfl) (Or.inr rfl)) pgs_nil))) (fun _ _ _ _ _ => by
    refine pts_one (pt_cmpR op_eq ?_ ?_ (nomark _))
    · exact pe_ix ix_tup (pv 4) (pe_gc (by rfl) T.c_CELL) (fun _ _ => rfl)
    · refine pe_fld ?_ ?_
      · exact pv 0
      · rfl) (fun _ _ _ _ _ => by exact pv 5)))
 (pss_cons (ps_if (pt_cmpR op_gt (pe_callB call_len_seq (by rfl) T.z_len bt_len (pa_cons (pv 3) pa_nil)) pe_int (nomark _))
  (pss_one (ps_ret (pe_op op_cat (pe_lst (pa_cons (pv 2) pa_nil)) (pe_callB (call_minLL rfl hu1) (by rfl) T.z_min bt_min (pa_cons (pv 3) pa_nil)))))
  pss_nil)
 (pss_one (ps_expr (pe_meth (pv 0) T.cl_Passage T.m_Passage_lengthen (ok_Passage_lengthen T) (hr.mono (by decide)) T.b_Passage_lengthen .nil pass0 (pa_cons (pv 1) (pa_cons (pv 2) pa_nil))))))))
 (pss_one (ps_ret (pe_lst (pa_cons (pe_gc (by rfl) T.c_CANNOT_BE_DONE) pa_nil))))))), ?_⟩
    -- ways = [{} for minute in range(LAST_MINUTE + 1)]
    refine ⟨_, _, rfl, rfl, 41, rfl, by decide, by decide, fun W hW => ?_⟩
    refine lc_range (lo := 0) (n := 41) (SW H W) ⟨[], rfl, List.nodup_nil, same_new hW, upd_same, fun d hd => (by cases hd)⟩ ?_ ?_
    · rintro i H1 hi ⟨ds, hl, nd, sm1, hW1, hd1⟩
      refine ⟨rfl, ?_⟩
      unfold tYes
      show (if true = true then _ else _)
      rw [if_pos rfl]
      intro d hd
      have ndW : d ≠ W := fun z => by rw [z, hW1] at hd; cases hd
      have nmem : ¬ d ∈ ds := fun z => by
        have := (hd1 d z).2
        rw [hd] at this
        cases this
      refine ⟨ds.map V.ref, by rw [upd_ne ndW.symm]; exact hW1, small1000 (by rw [List.length_map]; omega), ds ++ [d], by rw [List.length_append, hl]; rfl, ?_, ?_, ?_, ?_⟩
      · rw [List.nodup_append]
        refine ⟨nd, by simp, fun x hx y hy e => ?_⟩
        rw [List.mem_singleton.mp hy] at e
        exact nmem (e ▸ hx)
      · intro b u hb
        rw [upd_ne (ne_of_none hb hW), upd_ne (ne_of_none (sm1 _ _ hb) hd)]
        exact sm1 _ _ hb
      · rw [upd_same, List.map_append]
        rfl
      · intro x hx
        rcases List.mem_append.mp hx with z | z
        · obtain ⟨h1, h2⟩ := hd1 x z
          refine ⟨h1, ?_⟩
          rw [upd_ne (ne_of h2 hW1 (by intro z; cases z)), upd_ne (show x ≠ d from fun e => nmem (e ▸ z))]
          exact h2
        · rw [List.mem_singleton.mp z]
          exact ⟨sm1.free hd, by rw [upd_ne ndW, upd_same]⟩
    · rintro H1 ⟨ds, hl, nd, sm1, hW1, hd1⟩
      have atd : ∀ (t : Nat) (d : Addr), ds[t]? = some d → ∀ z : Int, z = (t : Nat) → atI (ds.map V.ref) z = some (.ref d) := fun t d h z hz => at_of hz (by rw [List.getElem?_map, h]; rfl)
      obtain ⟨d0, hd0⟩ : ∃ d, ds[0]? = some d := ⟨ds[0]'(by omega), List.getElem?_eq_getElem _⟩
      have hdm := hd1 d0 (List.mem_of_getElem? hd0)
      -- ways[0][self.first_stand()] = []
      refine ⟨Nat.zero_le _, fun e0 he0 => ?_⟩
      have smE : Same H1 (upd H1 e0 (.lst [])) := same_new he0
      refine (rdV rfl (rdXL (v := .ref d0) (SqL.of (smE _ _ hW1)) (atd 0 d0 hd0 _ rfl) (rdM rfl (smE _ _ (sm1 _ _ ho)) rfl ⟨o, F, p, rfl, hp.same (sm1.trans smE), fun q hq => ?_⟩)))
      have smQ : Same H1 (upd (upd H1 e0 (.lst [])) q (.tup (tv 0 p.water.boat 0 p.bare))) := smE.trans (same_new hq)
      refine ⟨d0, _, rfl, DPut.t (k := ks (Pm.st0 p)) (smQ _ _ hdm.2) upd_same (small1000 (Nat.zero_le _)), ?_⟩
      have ep : putK ([] : List (List Key × V)) (ks (Pm.st0 p)) (.ref e0) = [(ks (Pm.st0 p), .ref e0)] := rfl
      rw [ep]
      generalize hH2 : upd (upd (upd H1 e0 (.lst [])) q (.tup (tv 0 p.water.boat 0 p.bare))) d0 (.dT [(ks (Pm.st0 p), .ref e0)]) = H2
      have ne0 : e0 ≠ d0 := fun z => by rw [z, hdm.2] at he0; cases he0
      have nq0 : q ≠ d0 := fun z => by rw [z, smE _ _ hdm.2] at hq; cases hq
      have nqe : e0 ≠ q := ne_of_none upd_same hq
      have fx2 : Fx ds H1 H2 := fun b u hb hn => by
        rw [← hH2, upd_ne (fun z => hn (by rw [z]; exact List.mem_of_getElem? hd0))]
        exact smQ _ _ hb
      have tb2 : Tabs H2 ds (fun t s => if t = 0 ∧ s = Pm.st0 p then some [] else none) := by
        refine ⟨hl, nd, fun t d ht => ?_⟩
        by_cases h0 : t = 0
        · subst h0
          rw [hd0] at ht
          have ht := Option.some.inj ht
          subst ht
          refine ⟨_, by rw [← hH2, upd_same], by simp, fun k v hm => ?_, fun s w hs => ?_⟩
          · have hm := List.mem_singleton.mp hm
            cases hm
            refine ⟨Pm.st0 p, e0, [], rfl, rfl, ?_, by simp⟩
            rw [← hH2, upd_ne ne0, upd_ne nqe, upd_same]
            rfl
          · by_cases z : s = Pm.st0 p
            · subst z
              rw [valV_pos rfl]
              rfl
            · simp [z] at hs
        · have hdt := hd1 d (List.mem_of_getElem? ht)
          have hne : d ≠ d0 := fun z => by
            subst z
            have h1 := (List.getElem?_eq_some_iff.mp ht).1
            have h2 := (List.getElem?_eq_some_iff.mp hd0).1
            have e1 := (List.getElem?_eq_some_iff.mp ht).2
            have e2 := (List.getElem?_eq_some_iff.mp hd0).2
            have i1 := nd.idxOf_getElem t h1
            have i2 := nd.idxOf_getElem 0 h2
            rw [e1] at i1
            rw [e2] at i2
            exact h0 (i1.symm.trans i2)
          refine ⟨[], ?_, List.nodup_nil, fun k v hm => (by cases hm), fun s w hs => (by simp [h0] at hs)⟩
          rw [← hH2, upd_ne hne]
          exact smQ _ _ hdt.2
      have fresh : ∀ d ∈ ds, H d = none := fun d hd => (hd1 d hd).1
      have samefx : ∀ {Ha Hb : Hp}, Same H Ha → Fx ds Ha Hb → Same H Hb := fun sa f b u hb => f b u (sa _ _ hb) fun z => by rw [fresh b z] at hb; cases hb
      have hW2 : H2 W = some (.lst (ds.map V.ref)) := fx2 _ _ hW1 fun z => by
        have := (hd1 W z).2
        rw [hW1] at this
        cases this
      -- for minute in range(LAST_MINUTE + 1)
      refine ⟨_, _, rfl, rfl, 41, rfl, by decide, by decide, for_range (lo := 0) (n := 41) (SI o W H ds p) ⟨none, none, _, rfl, samefx sm1 fx2, hW2, tb2, Pm.TInv.start p, fun w s _ z => absurd z (Nat.not_lt_zero _)⟩ ?_ ?_⟩
      · rintro m σ H3 hm ⟨v2, v3, get, rfl, sm3, hW3, tb3, ti3, no3⟩
        have m40 : m ≤ 40 := by omega
        obtain ⟨dm, hdm'⟩ : ∃ d, ds[m]? = some d := ⟨ds[m]'(by omega), List.getElem?_eq_getElem _⟩
        obtain ⟨kvs, ed, ndk, en3, en4⟩ := (tb3.tab m dm hdm').ex
        have ez : (0 : Int) + (m : Int) = (m : Int) := Int.zero_add _
        have ho3 := sm3 _ _ ho
        have hp3 := hp.same sm3
        have hkl : kvs.length ≤ 192 := ent_len (p := p) (t := m) g ndk (fun k v hm' => by obtain ⟨s, a, w, e1, _, _, e4⟩ := en3 k v hm'; exact ⟨s, w, e1, e4⟩) fun s w hs => by
          obtain ⟨e1, e2, _⟩ := ti3.sound _ _ _ m40 hs
          exact ⟨e1, Pm.run_val g (Pm.val0 g) e2⟩
        -- ended = [..]
        refine ⟨dm, .dT kvs, ed, trivial, fun od => ?_⟩
        have nWd : W ≠ dm := ne_of hW3 ed (by intro z; cases z)
        have nod : o ≠ dm := ne_of ho3 ed (by intro z; cases z)
        refine ⟨_, rfl, _, rfl, rdXL (v := .ref dm) (SqL.of (by rw [upd_ne nWd]; exact hW3)) (atd m dm hdm' _ ez) ⟨dm, od, kvs, rfl, upd_same, fun e hE => ?_⟩⟩
        refine lc_itemsT (SE H3 dm od kvs e p) ⟨same_new hE, by rw [upd_same]; rfl⟩ (fun i Hc hc => hc.1 _ _ upd_same) ?_ ?_
        · rintro i Hc T' q k v hkv ⟨smc, hec⟩ hT hq
          obtain ⟨s0, a, w0, rfl, rfl, _, _⟩ := en3 k v (List.mem_of_getElem? hkv)
          have hq2 : Hc q = some (.tup (tv s0.1 s0.2.1 s0.2.2.1 s0.2.2.2)) := hq
          have smT : Same Hc (upd Hc T' (.tup [.ref q, .ref a])) := same_new hT
          have hoc : Hc o = _ := smc _ _ (by rw [upd_ne nod]; exact ho3)
          refine ⟨T', _, rfl, SqT.of upd_same, rfl, _, _, rfl, _, _, rfl, rfl, rfl, ?_⟩
          refine (rdV rfl (rdXT (SqT.of (smT _ _ hq2)) rfl (rdF rfl (smT _ _ hoc) cl T.n_Passage_mark_cell lk_mark_cell ⟨rfl, _, rfl, ?_⟩)))
          have en := decN s0.2.1 p.water.mark
          have esn := sel_snoc p hkv
          rw [mk_ks] at esn
          by_cases hmk : s0.2.1 = p.water.mark
          · rw [decide_eq_true hmk] at en esn
            refine iteT' en (rdV rfl ⟨_, smT _ _ hec, small1000 ?_, ?_, ?_⟩)
            · have := sel_len p (kvs.take i)
              rw [List.length_take] at this
              omega
            · intro b u hb
              rw [upd_ne (ne_of_none hb hE)]
              exact smT _ _ (smc _ _ hb)
            · rw [upd_same, esn, if_pos rfl]
          · rw [decide_eq_false hmk] at en esn
            refine iteF' en ⟨smc.trans smT, ?_⟩
            rw [esn, if_neg Bool.false_ne_true]
            exact smT _ _ hec
        · rintro Hc ⟨smc, hec⟩
          rw [List.take_length] at hec
          refine ⟨smc _ _ upd_same, ?_⟩
          have nec : e ≠ dm := fun z => by rw [z, upd_same] at hE; cases hE
          have hE3 : H3 e = none := by rw [upd_ne nec] at hE; exact hE
          generalize hH4 : upd Hc dm (.dT kvs) = H4
          have sm34 : Same H3 H4 := fun b u hb => by
            rw [← hH4]
            by_cases z : b = dm
            · subst z
              rw [upd_same]
              rw [ed] at hb
              exact hb
            · rw [upd_ne z]
              exact smc _ _ (by rw [upd_ne z]; exact hb)
          have he4 : H4 e = some (.lst (sel p kvs)) := by rw [← hH4, upd_ne nec]; exact hec
          have sm4 := sm3.trans sm34
          refine ⟨_, rfl, e, _, rfl, .inl (SqL.of he4), rdO ⟨_, rfl, ?_⟩⟩
          by_cases hz : (sel p kvs).length = 0
          · refine iteF' (decide_eq_false (by rw [hz]; decide)) ?_
            refine (rdM rfl (sm4 _ _ ho) rfl (rdV rfl (rdV rfl ⟨o, W, F, p, m, ds, get, by rw [ez]; rfl, hp.same sm4, g, m40, sm34 _ _ hW3, tb3.same sm34, ti3, fun H5 get5 fx5 tb5 ti5 => ?_⟩)))
            refine ⟨_, _, get5, rfl, samefx sm4 fx5, (tb3.same sm34).kx fx5 _ _ (sm34 _ _ hW3) (fun _ z => nomatch z), tb5, ti5, Pm.past g m40 ti3 no3 fun s w hs hmk => ?_⟩
            obtain ⟨v, hv⟩ := Option.isSome_iff_exists.mp (en4 s w hs)
            have hin : v ∈ sel p kvs := List.mem_map.mpr ⟨(ks s, v), List.mem_filter.mpr ⟨valV_mem hv, by show mk p (ks s) = true; rw [mk_ks, decide_eq_true hmk]⟩, rfl⟩
            rw [List.eq_nil_of_length_eq_zero hz] at hin
            cases hin
          · refine iteT' (decide_eq_true (by omega)) ?_
            refine (rdV rfl ⟨small1 (by show 1 ≤ 1000; decide), fun l0 hl0 => ?_⟩)
            have sm45 : Same H4 (upd H4 l0 (.lst [.int (0 + (m : Int))])) := same_new hl0
            have hent : ∀ v ∈ sel p kvs, ∃ s w, s.2.1 = p.water.mark ∧ get m s = some w ∧ v = .ref (adr v) ∧ H3 (adr v) = some (.lst (iv (Pm.fl w))) := fun v hv => by
              obtain ⟨kv, hkv, rfl⟩ := List.mem_map.mp hv
              obtain ⟨hkv, hmk⟩ := List.mem_filter.mp hkv
              obtain ⟨s, a, w, e1, e2, e3, e4⟩ := en3 kv.1 kv.2 hkv
              rw [e1, mk_ks] at hmk
              refine ⟨s, w, of_decide_eq_true hmk, e4, ?_, ?_⟩
              · rw [e2]; rfl
              · rw [e2]; exact e3
            have hat : ∀ (i : Nat) (q : Addr), ((sel p kvs).map adr)[i]? = some q → ∃ s w, s.2.1 = p.water.mark ∧ get m s = some w ∧ H3 q = some (.lst (iv (Pm.fl w))) := fun i q hq => by
              rw [List.getElem?_map] at hq
              cases hv : (sel p kvs)[i]? with
              | none => rw [hv] at hq; cases hq
              | some v =>
                rw [hv] at hq
                have hq : adr v = q := Option.some.inj hq
                obtain ⟨s, w, a1, a2, _, a4⟩ := hent v (List.mem_of_getElem? hv)
                exact ⟨s, w, a1, a2, hq ▸ a4⟩
            have eqs : ((sel p kvs).map adr).map V.ref = sel p kvs := by
              rw [List.map_map]
              refine Eq.trans (List.map_congr_left fun v hv => ?_) (List.map_id _)
              obtain ⟨_, _, _, _, a3, _⟩ := hent v hv
              exact a3.symm
            have hf : ∀ (i : Nat) (q : Addr) (w : List Pm.Mv), ((sel p kvs).map adr)[i]? = some q → H3 q = some (.lst (iv (Pm.fl w))) → cont H3 (((sel p kvs).map adr).getD i 0) = Pm.fl w := fun i q w hq hw => by
              rw [List.getD_eq_getElem?_getD, hq]
              exact cont_iv hw
            have sm35 := sm34.trans sm45
            refine (rdV rfl ⟨e, (sel p kvs).map adr, fun i => cont H3 (((sel p kvs).map adr).getD i 0), rfl, by rw [eqs]; exact sm45 _ _ he4, by rw [List.length_map]; omega, fun i q hq => ?_, fun j q hj hleast => ?_⟩)
            · obtain ⟨s, w, _, _, a4⟩ := hat i q hq
              dsimp only
              rw [hf i q w hq a4]
              exact sm35 _ _ a4
            · obtain ⟨s, w, a1, a2, a4⟩ := hat j q hj
              obtain ⟨_, rr, _⟩ := ti3.sound _ _ _ m40 a2
              have hwl := Pm.run_min g rr
              obtain ⟨es, _, _⟩ := ti3.sound _ _ _ m40 a2
              have fw : (Pm.fl w).length = 2 * w.length := by
                unfold Pm.fl
                rw [Pm.ints_length, Pm.flat_len]
              refine ⟨l0, q, _, _, rfl, rfl, upd_same, sm35 _ _ a4, small1 ?_, fun r hr5 => ?_⟩
              · unfold iv
                rw [List.length_map, fw]
                show 1 + 2 * w.length ≤ 1000
                omega
              · have due := Pm.found g m40 ti3 no3 a1 a2 fun s' w' b1 b2 => by
                  obtain ⟨v, hv⟩ := Option.isSome_iff_exists.mp (en4 s' w' b2)
                  have hin : v ∈ sel p kvs := List.mem_map.mpr ⟨(ks s', v), List.mem_filter.mpr ⟨valV_mem hv, by show mk p (ks s') = true; rw [mk_ks, decide_eq_true b1]⟩, rfl⟩
                  obtain ⟨i, hi⟩ := List.mem_iff_getElem?.mp hin
                  have hil := (List.getElem?_eq_some_iff.mp hi).1
                  have hqi : ((sel p kvs).map adr)[i]? = some (adr v) := by rw [List.getElem?_map, hi]; rfl
                  obtain ⟨s2, a', w2, c1, c2, c3, c4⟩ := en3 _ _ (valV_mem hv)
                  have c5 := ks_inj c1
                  subst c5
                  have : w2 = w' := Option.some.inj (c4.symm.trans b2)
                  subst this
                  have hl := hleast i (by rw [List.length_map]; exact hil)
                  dsimp only at hl
                  rw [hf i (adr v) w2 hqi (by rw [c2]; exact c3), hf j q w hj a4] at hl
                  exact hl
                refine k _ r (sm4.trans (sm45.trans (same_new hr5))) ((sm4.trans sm45).free hr5) ?_
                rw [upd_same, due, ez]
                rfl
      · rintro σ H3 ⟨v2, v3, get, rfl, sm3, hW3, tb3, ti3, no3⟩
        refine ⟨small1 (by show 1 ≤ 1000; decide), fun r hr3 => ?_⟩
        have := Pm.lost g fun w s hw hs => no3 w s hw (by omega)
        refine k _ r (sm3.trans (same_new hr3)) (sm3.free hr3) ?_
        rw [upd_same, this]
        rfl
end
end Pa

end
section
set_option Elab.async false
set_option linter.all false
set_option maxRecDepth 100000
set_option maxHeartbeats 2000000
namespace Pa
open PySem PySem.Spec PyProof.Rows L2
theorem iv_append (a b : List Int) : iv (a ++ b) = iv a ++ iv b := List.map_append ..
theorem iv_ints (l : List Nat) : iv (Pm.intsN l) = nv l := (nv_map l).symm
theorem iv_get {l : List Int} {i : Nat} {z : Int} (h : l[i]? = some z) : atI (iv l) (i : Int) = some (.int z) := atI_nat (by unfold iv; rw [List.getElem?_map, h]; rfl)
/-- the call at its place -/
theorem at_tag (pre post : List Int) (c : Pm.Call) : (pre ++ (Pm.enc c ++ post))[pre.length]? = some (Pm.tag c : Int) := by
  rw [List.getElem?_append_right (Nat.le_refl _), Nat.sub_self]
  obtain ⟨r, e⟩ := Pm.enc_head c
  rw [e]
  rfl
theorem at_count {pre post : List Int} {c : Pm.Call} (h : Pm.rowed c = true) : (pre ++ (Pm.enc c ++ post))[pre.length + 1]? = some ((Pm.nums c).length : Int) := by
  rw [List.getElem?_append_right (Nat.le_add_right _ _), Nat.add_sub_cancel_left, Pm.enc_eq]
  unfold Pm.headOf
  rw [if_pos h]
  rfl
theorem cut_mid (pre mid post : List Int) {a b : Int} (ha : a = (pre.length : Nat)) (hb : b = ((pre.length + mid.length : Nat) : Int)) : cutV (iv (pre ++ (mid ++ post))) (some a) (some b) = iv mid := by
  subst ha hb
  unfold cutV
  rw [HT.sIx_nat, HT.sIx_nat]
  have e : (iv (pre ++ (mid ++ post))).length = pre.length + (mid.length + post.length) := by unfold iv; rw [List.length_map, List.length_append, List.length_append]
  rw [e, Nat.min_eq_left (by omega), Nat.min_eq_left (by omega), Nat.add_sub_cancel_left]
  unfold iv
  rw [← List.map_drop, ← List.map_take, List.drop_left, List.take_left]
section
variable {P : Program} {w : World} {K : PySem.W.Frag} {mg : Str → Option Value} {base : Heap} {D : Adr}
/-- asked of a call at its place in the list -/
noncomputable def spAt (K : PySem.W.Frag) (f : Pm.Call → Int) : Sp := fun vs H Q _ => ∃ (a : Addr) (pre post : List Int) (c : Pm.Call), vs = [.ref a, .int (pre.length : Nat)] ∧ SqL K H a (iv (pre ++ (Pm.enc c ++ post))) ∧ ∀ H', Same H H' → Q (.int ((pre.length : Nat) + f c)) H'
noncomputable def fStart (c : Pm.Call) : Int := if Pm.rowed c = true then 2 else 1
noncomputable def fEnd (c : Pm.Call) : Int := ((Pm.enc c).length : Nat)
theorem fStart_t {c : Pm.Call} (h : Pm.rowed c = true) : fStart c = 2 := if_pos h
theorem fStart_f {c : Pm.Call} (h : Pm.rowed c = false) : fStart c = 1 := if_neg (by rw [h]; simp)
theorem fEnd_eq (c : Pm.Call) : fEnd c = fStart c + ((Pm.nums c).length : Nat) := by
  unfold fEnd fStart
  rw [Pm.enc_length]
  cases Pm.rowed c <;> simp
theorem row_tag (c : Pm.Call) : (decide ((Pm.tag c : Int) = 2) || (decide ((Pm.tag c : Int) = 3) || decide ((Pm.tag c : Int) = 9))) = Pm.rowed c := by
  cases c <;> rfl
theorem ok_numbers_start (T : Txt K mg D) : FnOk P w K mg base CX0 2 D.f_numbers_start D.d_numbers_start ["calls", "place"] (spAt K fStart) := by
  refine T.F_numbers_start.ok sc_numbers_start (fun vs H Q E h => ?_) (fun cdv A outer s H vs Q E hr h => ?_)
  · obtain ⟨a, pre, post, c, rfl, _⟩ := h
    rfl
  · obtain ⟨a, pre, post, c, rfl, hl, k⟩ := h
    refine ⟨_, (pss_cons (ps_if (pt_val (pe_call (ok_has_row T) (hr.mono (by decide)) (by rfl) T.g_has_row T.F_has_row.kp T.b_has_row .nil pass0 (pa_cons (pe_ix ix_list (pv 0) (pv 1) (fun _ _ => rfl)) pa_nil)))
  (pss_one (ps_ret (pe_op op_add (pv 1) pe_int)))
  pss_nil)
 (pss_one (ps_ret (pe_op op_add (pv 1) pe_int)))), ?_⟩
    refine (rdV rfl (rdV rfl (rdXL hl (iv_get (at_tag pre post c)) ⟨_, rfl, fun H1 sm1 => ⟨_, rfl, ?_⟩⟩)))
    rw [row_tag c]
    cases h : Pm.rowed c with
    | true =>
      rw [fStart_t h] at k
      exact iteT (rdV rfl (rdO (k H1 sm1)))
    | false =>
      rw [fStart_f h] at k
      exact iteF ⟨_, rfl, rdO (k H1 sm1)⟩
theorem ok_numbers_end (T : Txt K mg D) : FnOk P w K mg base CX0 3 D.f_numbers_end D.d_numbers_end ["calls", "place"] (spAt K fEnd) := by
  refine T.F_numbers_end.ok sc_numbers_end (fun vs H Q E h => ?_) (fun cdv A outer s H vs Q E hr h => ?_)
  · obtain ⟨a, pre, post, c, rfl, _⟩ := h
    rfl
  · obtain ⟨a, pre, post, c, rfl, hl, k⟩ := h
    refine ⟨_, (pss_cons (ps_set (i := 2) sc_numbers_end.nd rfl (Or.inl rfl) (pe_call (ok_numbers_start T) (hr.mono (by decide)) (by rfl) T.g_numbers_start T.F_numbers_start.kp T.b_numbers_start .nil pass0 (pa_cons (pv 0) (pa_cons (pv 1) pa_nil))))
 (pss_cons (ps_if (pt_val (pe_call (ok_has_row T) (hr.mono (by decide)) (by rfl) T.g_has_row T.F_has_row.kp T.b_has_row .nil pass0 (pa_cons (pe_ix ix_list (pv 0) (pv 1) (fun _ _ => rfl)) pa_nil)))
  (pss_one (ps_ret (pe_op op_add (pv 2) (pe_ix ix_list (pv 0) (pe_op op_sub (pv 2) pe_int) (fun _ _ => rfl)))))
  pss_nil)
 (pss_one (ps_ret (pe_op op_add (pv 2) (pe_ix ix_tup (pe_gc (by rfl) T.c_NUMBERS) (pe_ix ix_list (pv 0) (pv 1) (fun _ _ => rfl)) (fun _ _ => rfl))))))), ?_⟩
    refine (rdV rfl (rdV rfl ⟨a, pre, post, c, rfl, hl, fun H1 sm1 => ?_⟩))
    refine ⟨_, rfl, _, rfl, rdXL (sm1.seq hl) (iv_get (at_tag pre post c)) ⟨_, rfl, fun H2 sm2' => ⟨_, rfl, ?_⟩⟩⟩
    have sm2 := sm1.trans sm2'
    have hl2 := sm2.seq hl
    rw [row_tag c]
    rw [fEnd_eq] at k
    cases h : Pm.rowed c with
    | true =>
      rw [fStart_t h] at k
      refine iteT (rdV rfl (rdV rfl (rdV rfl (rdO (rdXL (v := .int ((Pm.nums c).length : Nat)) hl2 (at_of (j := pre.length + 1) (by rw [fStart_t h]; omega) (by have q := at_count (pre := pre) (post := post) h; unfold iv; rw [List.getElem?_map, q]; rfl)) (rdO ?_))))))
      rw [← Int.add_assoc] at k
      rw [fStart_t h]
      exact k H2 sm2
    | false =>
      rw [fStart_f h] at k
      refine iteF ⟨_, rfl, _, rfl, _, rfl, rdXL hl2 (iv_get (at_tag pre post c)) (rdXT (v := .int ((Pm.nums c).length : Nat)) (T.t_NUMBERS _) ?_ (rdO ?_))⟩
      · cases c <;> first | rfl | exact absurd (show true = false from h) (by decide)
      · rw [← Int.add_assoc] at k
        rw [fStart_f h]
        exact k H2 sm2
end
end Pa

end
section
set_option Elab.async false
set_option linter.all false
set_option maxRecDepth 100000
set_option maxHeartbeats 2000000
namespace Pa
open PySem PySem.Spec PyProof.Rows L2
theorem PasAt.new {C : Addr} {H : Hp} {o r : Addr} {F : List Addr} {p : Pm.Pas} {u : HO} (h : PasAt C H o F p) (n : H r = none) : PasAt C (upd H r u) o F p := h.same (same_new n)
theorem PasAt.obj {C : Addr} {H : Hp} {o : Addr} {F : List Addr} {p : Pm.Pas} (h : PasAt C H o F p) : ∃ dx sh wr sr sm sl, H o = some (.ins C dx (flds p.water.wide p.water.high sh wr sr sm p.water.turn p.change sl p.water.boat p.water.mark)) := by
  obtain ⟨dx, sh, wr, sr, sm, sl, _, ho, _⟩ := h.ex
  exact ⟨dx, sh, wr, sr, sm, sl, ho⟩
theorem PasAt.tracked {C : Addr} {H : Hp} {o : Addr} {F : List Addr} {p : Pm.Pas} (h : PasAt C H o F p) {b : Addr} (hb : b ∈ F) : H b ≠ none := by
  obtain ⟨dx, sh, wr, sr, sm, sl, eF, ho, hsh, hwr, hsr, hsm, ⟨xs, hsl, hxs⟩, d1, d2, d3⟩ := h.ex
  subst eF
  simp only [List.mem_cons, List.not_mem_nil, or_false] at hb
  rcases hb with rfl | rfl | rfl | rfl | rfl | rfl
  · rw [ho]; simp
  · rw [hsh]; simp
  · rw [hwr]; simp
  · rw [hsr]; simp
  · rw [hsm]; simp
  · rw [hsl]; simp
theorem Kp.new {H H' : Hp} {F F' : List Addr} {r : Addr} {u : HO} (k : Kp H H' F F') (n : H' r = none) : Kp H (upd H' r u) F F' :=
  ⟨k.own, fun b v hb hF => by have := k.old b v hb hF; rw [upd_ne (ne_of_none this n)]; exact this⟩
theorem small {n : Nat} (h : n ≤ 1000) : n ≤ sizeLine := Nat.le_of_lt (small1000 h)
section
variable {P : Program} {w : World} {K : PySem.W.Frag} {mg : Str → Option Value} {base : Heap} {D : Adr}
/-- what answers to a call -/
noncomputable def EndsTo (C o : Addr) (H : Hp) (F : List Addr) (p : Pm.Pas) (c : Pm.Call) (Q : VK) : Prop := ∀ (H' : Hp) (F' : List Addr) (r : Addr), PasAt C H' o F' (Uw32.step p c).1 → Kp H H' F F' → ¬ r ∈ F' → (∀ b u, H b = some u → ¬ b ∈ F → b ≠ r) →
  H' r = some (.lst (iv (Pm.out (Uw32.step p c).2))) → Q (.ref r) H'
noncomputable def sp_answer_to (K : PySem.W.Frag) (D : Adr) : Sp := fun vs H Q _ => ∃ (o a : Addr) (F : List Addr) (p : Pm.Pas) (c : Pm.Call), vs = [.ref o, .int (Pm.tag c : Nat), .ref a] ∧ PasAt D.C_Passage H o F p ∧ Pm.Good p ∧ Pm.Fits c ∧ SqL K H a (nv (Pm.nums c)) ∧ EndsTo D.C_Passage o H F p c Q
theorem EndsTo.one {C o : Addr} {H H1 : Hp} {F F' : List Addr} {p : Pm.Pas} {c : Pm.Call} {Q : VK} (k : EndsTo C o H F p c Q) (e : (Uw32.step p c).2.l = []) (hp : PasAt C H1 o F' (Uw32.step p c).1) (kp : Kp H H1 F F') :
    ([V.int (Uw32.step p c).2.v] : List V).length ≤ sizeLine ∧ ∀ q, H1 q = none → Q (.ref q) (upd H1 q (.lst [.int (Uw32.step p c).2.v])) := by
  refine ⟨small (by show 1 ≤ 1000; decide), fun q hq => ?_⟩
  refine k _ F' q (hp.new hq) (kp.new hq) (fun z => hp.tracked z hq) (fun b u hb hF z => ?_) ?_
  · have := kp.old b u hb hF
    rw [z, hq] at this
    cases this
  · rw [upd_same]
    unfold Pm.out Uw32Neutral.out
    rw [e]
    rfl
theorem nv_at {l : List Nat} {i : Nat} {n : Nat} {z : Int} (e : z = (i : Nat)) (h : l[i]? = some n) : atI (nv l) z = some (.int (n : Nat)) := at_of e (by unfold nv; rw [List.getElem?_map, h]; rfl)
theorem decI (a b : Int) : decide (V.int a = V.int b) = decide (a = b) := by
  rw [decide_eq_decide]
  exact ⟨fun z => V.int.inj z, fun z => by rw [z]⟩
theorem step_l {p : Pm.Pas} {c : Pm.Call} (h : Pm.tag c < 8) : (Uw32.step p c).2.l = [] := by
  cases c with
  | begins w h => rw [Pm.step_begins]; split <;> rfl
  | shoal c => rw [Pm.step_shoal]; (repeat' split) <;> rfl
  | winds l => rw [Pm.step_winds]; split <;> rfl
  | strong l => rw [Pm.step_strong]; split <;> rfl
  | boat a b c d k => rw [Pm.step_boat]; split <;> rfl
  | places b m => rw [Pm.step_places]; (repeat' split) <;> rfl
  | sail x => rw [Pm.step_sail]; (repeat' split) <;> rfl
  | change k => rw [Pm.step_change]; split <;> rfl
  | soonest => exact absurd h (by decide)
  | check l => exact absurd (show (9 : Nat) < 8 from h) (by decide)
theorem check_same (p : Pm.Pas) (l : List (Nat × Nat)) : (Uw32.step p (.check l)).1 = p := by
  rw [Pm.step_check]
  split <;> rfl
/-- a list as the answer, the passage as it was -/
theorem EndsTo.many {C o : Addr} {H H1 : Hp} {F : List Addr} {p : Pm.Pas} {c : Pm.Call} {Q : VK} {r : Addr} (k : EndsTo C o H F p c Q) (hp : PasAt C H o F p) (e : (Uw32.step p c).1 = p) (sm : Same H H1) (hr : H r = none) (h : H1 r = some (.lst (iv (Pm.out (Uw32.step p c).2)))) : Q (.ref r) H1 := by
  refine k H1 F r (by rw [e]; exact hp.same sm) ⟨fun b hb => .inl hb, fun b u hb _ => sm b u hb⟩ (fun z => hp.tracked z hr) (fun b u hb _ z => ?_) h
  rw [z, hr] at hb
  cases hb
theorem sk {i : Nat} {σ : L2.St} {H : Hp} {v c : Int} {t u : TS} {D : Ends} (h1 : σ[i]? = some (some (.int v))) (e : decide (v = c) = false) (h : u D σ H) : tSeq (tIfS (tTest (tOp rEq (tVar i) (tC (.int c)))) t tNext) u D σ H := by
  refine ⟨_, h1, rfl, _, rfl, ?_⟩
  rw [decI, e]
  exact iteF h
theorem hit {i : Nat} {σ : L2.St} {H : Hp} {v c : Int} {t u : TS} {D : Ends} (h1 : σ[i]? = some (some (.int v))) (e : decide (v = c) = true) (h : t { D with nx := u D } σ H) : tSeq (tIfS (tTest (tOp rEq (tVar i) (tC (.int c)))) t tNext) u D σ H := by
  refine ⟨_, h1, rfl, _, rfl, ?_⟩
  rw [decI, e]
  exact iteT h
theorem ok_answer_to (T : Txt K mg D) : FnOk P w K mg base CX0 8 D.f_answer_to D.d_answer_to ["passage", "call", "numbers"] (sp_answer_to K D) := by
  refine T.F_answer_to.ok sc_answer_to (fun vs H Q E h => ?_) (fun cdv A outer s H vs Q E hr h => ?_)
  · obtain ⟨o, a, F, p, c, rfl, _⟩ := h
    rfl
  · obtain ⟨o, a, F, p, c, rfl, hp, g, ft, hl, k⟩ := h
    obtain ⟨dx, sh, wr, sr, sm, sl, ho⟩ := hp.obj
    refine ⟨_, (pss_cons (ps_if (pt_cmpR op_eq (pv 1) (pe_gc (by rfl) T.c_BEGINS) (nomark _))
  (pss_one (ps_ret (pe_lst (pa_cons (pe_meth (pv 0) T.cl_Passage T.m_Passage_begins (ok_Passage_begins T) (hr.mono (by decide)) T.b_Passage_begins .nil pass0 (pa_cons (pe_ix ix_list (pv 2) pe_int (fun _ _ => rfl)) (pa_cons (pe_ix ix_list (pv 2) pe_int (fun _ _ => rfl)) pa_nil))) pa_nil))))
  pss_nil)
 (pss_cons (ps_if (pt_cmpR op_eq (pv 1) (pe_gc (by rfl) T.c_SHOAL) (nomark _))
  (pss_one (ps_ret (pe_lst (pa_cons (pe_meth (pv 0) T.cl_Passage T.m_Passage_shoal (ok_Passage_shoal T) (hr.mono (by decide)) T.b_Passage_shoal .nil pass0 (pa_cons (pe_ix ix_list (pv 2) pe_int (fun _ _ => rfl)) pa_nil)) pa_nil))))
  pss_nil)
 (pss_cons (ps_if (pt_cmpR op_eq (pv 1) (pe_gc (by rfl) T.c_WINDS) (nomark _))
  (pss_one (ps_ret (pe_lst (pa_cons (pe_meth (pv 0) T.cl_Passage T.m_Passage_winds (ok_Passage_winds T) (hr.mono (by decide)) T.b_Passage_winds .nil pass0 (pa_cons (pv 2) pa_nil)) pa_nil))))
  pss_nil)
 (pss_cons (ps_if (pt_cmpR op_eq (pv 1) (pe_gc (by rfl) T.c_STRONG) (nomark _))
  (pss_one (ps_ret (pe_lst (pa_cons (pe_meth (pv 0) T.cl_Passage T.m_Passage_strong (ok_Passage_strong T) (hr.mono (by decide)) T.b_Passage_strong .nil pass0 (pa_cons (pv 2) pa_nil)) pa_nil))))
  pss_nil)
 (pss_cons (ps_if (pt_cmpR op_eq (pv 1) (pe_gc (by rfl) T.c_BOAT) (nomark _))
  (pss_one (ps_ret (pe_lst (pa_cons (pe_meth (pv 0) T.cl_Passage T.m_Passage_boat (ok_Passage_boat T) (hr.mono (by decide)) T.b_Passage_boat .nil pass0 (pa_cons (pe_slice sl_list (pv 2) po_none (po_some pe_int)) (pa_cons (pe_ix ix_list (pv 2) pe_int (fun _ _ => rfl)) pa_nil))) pa_nil))))
  pss_nil)
 (pss_cons (ps_if (pt_cmpR op_eq (pv 1) (pe_gc (by rfl) T.c_PLACES) (nomark _))
  (pss_one (ps_ret (pe_lst (pa_cons (pe_meth (pv 0) T.cl_Passage T.m_Passage_places (ok_Passage_places T) (hr.mono (by decide)) T.b_Passage_places .nil pass0 (pa_cons (pe_ix ix_list (pv 2) pe_int (fun _ _ => rfl)) (pa_cons (pe_ix ix_list (pv 2) pe_int (fun _ _ => rfl)) pa_nil))) pa_nil))))
  pss_nil)
 (pss_cons (ps_if (pt_cmpR op_eq (pv 1) (pe_gc (by rfl) T.c_SAIL) (nomark _))
  (pss_one (ps_ret (pe_lst (pa_cons (pe_meth (pv 0) T.cl_Passage T.m_Passage_sail (ok_Passage_sail T) (hr.mono (by decide)) T.b_Passage_sail .nil pass0 (pa_cons (pe_ix ix_list (pv 2) pe_int (fun _ _ => rfl)) (pa_cons (pe_ix ix_list (pv 2) pe_int (fun _ _ => rfl)) (pa_cons (pe_ix ix_list (pv 2) pe_int (fun _ _ => rfl)) pa_nil)))) pa_nil))))
  pss_nil)
 (pss_cons (ps_if (pt_cmpR op_eq (pv 1) (pe_gc (by rfl) T.c_CHANGE) (nomark _))
  (pss_one (ps_ret (pe_lst (pa_cons (pe_meth (pv 0) T.cl_Passage T.m_Passage_change (ok_Passage_change T) (hr.mono (by decide)) T.b_Passage_change .nil pass0 (pa_cons (pe_ix ix_list (pv 2) pe_int (fun _ _ => rfl)) pa_nil)) pa_nil))))
  pss_nil)
 (pss_cons (ps_if (pt_cmpR op_eq (pv 1) (pe_gc (by rfl) T.c_SOONEST) (nomark _))
  (pss_one (ps_ret (pe_meth0 (pv 0) T.cl_Passage T.m_Passage_soonest (ok_Passage_soonest T) (hr.mono (by decide)) T.b_Passage_soonest .nil pass0)))
  pss_nil)
 (pss_one (ps_ret (pe_meth (pv 0) T.cl_Passage T.m_Passage_check (ok_Passage_check T) (hr.mono (by decide)) T.b_Passage_check .nil pass0 (pa_cons (pv 2) pa_nil))))))))))))), ?_⟩
    cases c with
    | begins x y =>
      refine hit rfl rfl (rdM rfl ho rfl (rdV rfl (rdXL hl (nv_at (i := 0) rfl rfl) (rdV rfl (rdXL hl (nv_at (i := 1) rfl rfl) ⟨o, F, p, x, y, rfl, hp, fun H' F' h1 h2 => ?_⟩)))))
      exact k.one (step_l (by show 0 < 8; decide)) h1 h2
    | shoal x =>
      refine sk rfl rfl (hit rfl rfl (rdM rfl ho rfl (rdV rfl (rdXL hl (nv_at (i := 0) rfl rfl) ⟨o, F, p, x, rfl, hp, g, fun H' F' h1 h2 => ?_⟩))))
      exact k.one (step_l (by show 1 < 8; decide)) h1 h2
    | winds l =>
      refine sk rfl rfl (sk rfl rfl (hit rfl rfl (rdM rfl ho rfl (rdV rfl ⟨o, a, F, p, l, rfl, hp, hl, fun H' F' h1 h2 => ?_⟩))))
      exact k.one (step_l (by show 2 < 8; decide)) h1 h2
    | strong l =>
      refine sk rfl rfl (sk rfl rfl (sk rfl rfl (hit rfl rfl (rdM rfl ho rfl (rdV rfl ⟨o, a, F, p, l, rfl, hp, hl, fun H' F' h1 h2 => ?_⟩)))))
      exact k.one (step_l (by show 3 < 8; decide)) h1 h2
    | boat x1 x2 x3 x4 t =>
      refine sk rfl rfl (sk rfl rfl (sk rfl rfl (sk rfl rfl (hit rfl rfl (rdM rfl ho rfl ⟨_, rfl, _, rfl, a, _, rfl, hl, fun q hq => ?_⟩)))))
      refine (rdV rfl (rdXL (sq_new hl hq) (nv_at (i := 4) rfl rfl) ⟨o, q, F, p, x1, x2, x3, x4, t, rfl, hp.new hq, SqL.of upd_same, fun H' F' h1 h2 => ?_⟩))
      refine k.one (step_l (by show 4 < 8; decide)) h1 ⟨fun b hb => ?_, fun b u hb hF => ?_⟩
      · rcases h2.own b hb with z | z
        · exact .inl z
        · exact .inr (upd_none z).2
      · exact h2.old b u (by rw [upd_ne (ne_of_none hb hq)]; exact hb) hF
    | places b m =>
      refine sk rfl rfl (sk rfl rfl (sk rfl rfl (sk rfl rfl (sk rfl rfl (hit rfl rfl (rdM rfl ho rfl (rdV rfl (rdXL hl (nv_at (i := 0) rfl rfl) (rdV rfl (rdXL hl (nv_at (i := 1) rfl rfl) ⟨o, F, p, b, m, rfl, hp, g, fun H' F' h1 h2 => ?_⟩))))))))))
      exact k.one (step_l (by show 5 < 8; decide)) h1 h2
    | sail x =>
      refine sk rfl rfl (sk rfl rfl (sk rfl rfl (sk rfl rfl (sk rfl rfl (sk rfl rfl (hit rfl rfl (rdM rfl ho rfl (rdV rfl (rdXL hl (nv_at (i := 0) rfl rfl) (rdV rfl (rdXL hl (nv_at (i := 1) rfl rfl) (rdV rfl (rdXL hl (nv_at (i := 2) rfl rfl) ⟨o, F, p, x, rfl, hp, g, fun H' F' h1 h2 => ?_⟩)))))))))))))
      exact k.one (step_l (by show 6 < 8; decide)) h1 h2
    | change x =>
      refine sk rfl rfl (sk rfl rfl (sk rfl rfl (sk rfl rfl (sk rfl rfl (sk rfl rfl (sk rfl rfl (hit rfl rfl (rdM rfl ho rfl (rdV rfl (rdXL hl (nv_at (i := 0) rfl rfl) ⟨o, F, p, x, rfl, hp, fun H' F' h1 h2 => ?_⟩))))))))))
      exact k.one (step_l (by show 7 < 8; decide)) h1 h2
    | soonest =>
      refine sk rfl rfl (sk rfl rfl (sk rfl rfl (sk rfl rfl (sk rfl rfl (sk rfl rfl (sk rfl rfl (sk rfl rfl (hit rfl rfl (rdM rfl ho rfl ⟨o, F, p, rfl, hp, g, fun H1 r sm hr1 h1 => ?_⟩)))))))))
      exact k.many hp rfl sm hr1 h1
    | check l =>
      refine sk rfl rfl (sk rfl rfl (sk rfl rfl (sk rfl rfl (sk rfl rfl (sk rfl rfl (sk rfl rfl (sk rfl rfl (sk rfl rfl ((rdM rfl ho rfl (rdV rfl ⟨o, a, F, p, l, rfl, hp, g, hl, ft.1, fun H1 r sm hr1 h1 => ?_⟩)))))))))))
      exact k.many hp (check_same p l) sm hr1 h1
end
end Pa

end
section
set_option Elab.async false
set_option linter.all false
set_option maxRecDepth 100000
set_option maxHeartbeats 2000000
namespace Pa
open PySem PySem.Spec PyProof.Rows L2
theorem iv_length (l : List Int) : (iv l).length = l.length := List.length_map ..
theorem PasAt.off {C : Addr} {H : Hp} {o g : Addr} {F : List Addr} {p : Pm.Pas} {u : HO} {gs : List V} (h : PasAt C H o F p) (n : ¬ g ∈ F) (hg : H g = some (.lst gs)) : PasAt C (upd H g u) o F p := by
  obtain ⟨dx, sh, wr, sr, sm, sl, eF, ho, hsh, hwr, hsr, hsm, ⟨xs, hsl, hxs⟩, d1, d2, d3⟩ := h.ex
  have k : ∀ {b : Addr} {v : HO}, H b = some v → b ∈ F → (upd H g u) b = some v := fun {b v} hb m => by rw [upd_ne (show b ≠ g from fun z => n (by rw [← z]; exact m))]; exact hb
  subst eF
  exact ⟨dx, sh, wr, sr, sm, sl, rfl, k ho (by simp), k hsh (by simp), k hwr (by simp), k hsr (by simp), k hsm (by simp), ⟨xs, k hsl (by simp), hxs.keep fun a ys e => by rw [upd_ne (ne_of e hg (by intro z; cases z))]; exact e⟩, d1, d2, d3⟩
theorem len_1 {us : List Value} (h : us.length = 1) : ∃ a, us = [a] := by
  cases us with
  | nil => cases h
  | cons a r => exact ⟨a, by rw [List.eq_nil_of_length_eq_zero (Nat.succ.inj h)]⟩
theorem len_2 {us : List Value} (h : us.length = 2) : ∃ a b, us = [a, b] := by
  cases us with
  | nil => cases h
  | cons a r =>
    obtain ⟨b, rfl⟩ := len_1 (Nat.succ.inj h)
    exact ⟨a, b, rfl⟩
theorem len_3 {us : List Value} (h : us.length = 3) : ∃ a b c, us = [a, b, c] := by
  cases us with
  | nil => cases h
  | cons a r =>
    obtain ⟨b, c, rfl⟩ := len_2 (Nat.succ.inj h)
    exact ⟨a, b, c, rfl⟩
theorem len_4 {us : List Value} (h : us.length = 4) : ∃ a b c d, us = [a, b, c, d] := by
  cases us with
  | nil => cases h
  | cons a r =>
    obtain ⟨b, c, d, rfl⟩ := len_3 (Nat.succ.inj h)
    exact ⟨a, b, c, d, rfl⟩
theorem len_5 {us : List Value} (h : us.length = 5) : ∃ a b c d e, us = [a, b, c, d, e] := by
  cases us with
  | nil => cases h
  | cons a r =>
    obtain ⟨b, c, d, e, rfl⟩ := len_4 (Nat.succ.inj h)
    exact ⟨a, b, c, d, e, rfl⟩
section
variable {P : Program} {w : World} {K : PySem.W.Frag} {mg : Str → Option Value} {base : Heap} {D : Adr}
noncomputable def sp_answers_about (K : PySem.W.Frag) (D : Adr) : Sp := fun vs H Q _ => ∃ (o a : Addr) (F : List Addr) (cs : List Pm.Call) (H0 : Hp), vs = [.ref o, .ref a] ∧ PasAt D.C_Passage H o F Uw32.init ∧ Same H0 H ∧ (∀ b ∈ F, H0 b = none) ∧ SqL K H0 a (iv (cs.flatMap Pm.enc)) ∧
  (∀ c ∈ cs, Pm.Fits c) ∧ cs.length ≤ 40 ∧ ∀ (H' : Hp) (g : Addr), H' g = some (.lst (iv (Pm.given Uw32.init cs))) → Q (.ref g) H'
/-- between two turns: done stands behind, rest is to come -/
structure Turn (K : PySem.W.Frag) (D : Adr) (o a g : Addr) (cs : List Pm.Call) (H0 : Hp) (n : Nat) (σ : L2.St) (H : Hp) : Prop where
  ex : ∃ (don rest : List Pm.Call) (F : List Addr) (v4 v5 v6 : Option V), cs = don ++ rest ∧ n = rest.length ∧ σ = [some (.ref o), some (.ref a), some (.ref g), some (.int ((don.flatMap Pm.enc).length : Nat)), v4, v5, v6] ∧
    PasAt D.C_Passage H o F (Pm.after Uw32.init don) ∧ H g = some (.lst (iv (Pm.given Uw32.init don))) ∧ ¬ g ∈ F ∧ H0 g = none ∧ Same H0 H ∧ ∀ b ∈ F, H0 b = none
theorem ok_answers_about (T : Txt K mg D) : FnOk P w K mg base CX0 9 D.f_answers_about D.d_answers_about ["passage", "calls"] (sp_answers_about K D) := by
  refine T.F_answers_about.ok sc_answers_about (fun vs H Q E h => ?_) (fun cdv A outer s H vs Q E hr h => ?_)
  · obtain ⟨o, a, F, cs, H0, rfl, _⟩ := h
    rfl
  · obtain ⟨o, a, F, cs, H0, rfl, hp, sm, hF, hl, hfit, h40, k⟩ := h
    refine ⟨_, (pss_cons (ps_set (i := 2) sc_answers_about.nd rfl (Or.inl rfl) (pe_lst pa_nil))
 (pss_cons (ps_set (i := 3) sc_answers_about.nd rfl (Or.inl rfl) pe_int)
 (pss_cons (ps_while PassesOwn.never (pt_cmpR op_lt (pv 3) (pe_callB call_len_seq (by rfl) T.z_len bt_len (pa_cons (pv 1) pa_nil)) (nomark _))
  (pss_cons (ps_set (i := 4) sc_answers_about.nd rfl (Or.inl rfl) (pe_call (ok_numbers_end T) (hr.mono (by decide)) (by rfl) T.g_numbers_end T.F_numbers_end.kp T.b_numbers_end .nil pass0 (pa_cons (pv 1) (pa_cons (pv 3) pa_nil))))
 (pss_cons (ps_set (i := 5) sc_answers_about.nd rfl (Or.inl rfl) (pe_slice sl_list (pv 1) (po_some (pe_call (ok_numbers_start T) (hr.mono (by decide)) (by rfl) T.g_numbers_start T.F_numbers_start.kp T.b_numbers_start .nil pass0 (pa_cons (pv 1) (pa_cons (pv 3) pa_nil)))) (po_some (pv 4))))
 (pss_cons (ps_set (i := 6) sc_answers_about.nd rfl (Or.inl rfl) (pe_call (ok_answer_to T) (hr.mono (by decide)) (by rfl) T.g_answer_to T.F_answer_to.kp T.b_answer_to .nil pass0 (pa_cons (pv 0) (pa_cons (pe_ix ix_list (pv 1) (pv 3) (fun _ _ => rfl)) (pa_cons (pv 5) pa_nil)))))
 (pss_cons (ps_expr (pe_bm PySem.F.plainAttrs_list PySem.F.slot_list_append PySem.F.type_list_append mt_append (pv 2) (pa_cons (pe_callB call_len_seq (by rfl) T.z_len bt_len (pa_cons (pv 6) pa_nil)) pa_nil)))
 (pss_cons (ps_expr (pe_bm PySem.F.plainAttrs_list PySem.F.slot_list_extend PySem.F.type_list_extend mt_extend (pv 2) (pa_cons (pv 6) pa_nil)))
 (pss_one (ps_set (i := 3) sc_answers_about.nd rfl (Or.inl rfl) (pv 4)))))))))
 (pss_one (ps_ret (pv 2)))))), ?_⟩
    refine ⟨Nat.zero_le _, fun g hg => ?_⟩
    have t0 : Turn K D o a g cs H0 cs.length [some (.ref o), some (.ref a), some (.ref g), some (.int 0), none, none, none] (upd H g (.lst [])) :=
      ⟨[], cs, F, none, none, none, rfl, rfl, rfl, hp.new hg, upd_same, fun z => hp.tracked z hg, sm.free hg, fun b u hb => by rw [upd_ne (ne_of_none (sm b u hb) hg)]; exact sm b u hb, hF⟩
    refine ⟨Turn K D o a g cs H0, ⟨_, t0⟩, ?_⟩
    rintro n σ H1 ⟨don, rest, F1, v4, v5, v6, ecs, en, rfl, hp1, hg1, ng1, h0g, sm1, hF1⟩
    have hl1 : SqL K H1 a (iv (cs.flatMap Pm.enc)) := sm1.seq hl
    refine ⟨_, rfl, _, rfl, a, _, rfl, .inl hl1, rdO ⟨_, rfl, ?_⟩⟩
    cases rest with
    | nil =>
      have ed : cs = don := by rw [ecs, List.append_nil]
      refine ite2 (fun q => ?_) (fun q => ?_)
      · exfalso
        have q := of_decide_eq_true q
        rw [iv_length, ed] at q
        omega
      · subst ed
        exact (rdV rfl (k H1 g hg1))
    | cons c r =>
      have hc : c ∈ cs := by rw [ecs]; exact List.mem_append_right _ (List.Mem.head _)
      have e1 : cs.flatMap Pm.enc = don.flatMap Pm.enc ++ (Pm.enc c ++ r.flatMap Pm.enc) := by rw [ecs, List.flatMap_append, List.flatMap_cons]
      have hpos := Pm.enc_pos c
      refine ite2 (fun q => ?_) (fun q => ?_)
      · refine ⟨fun σ' H' => Turn K D o a g cs H0 r.length σ' H', fun σ' H' t => ⟨r.length, by rw [en]; exact Nat.lt_succ_self _, t⟩, ?_⟩
        rw [e1] at hl1
        -- end = numbers_end(calls, place)
        refine (rdV rfl (rdV rfl ⟨a, _, _, c, rfl, hl1, fun Ha sma => ?_⟩))
        -- numbers = calls[numbers_start(calls, place):end]
        refine ⟨_, rfl, _, rfl, _, rfl, a, _, _, c, rfl, sma.seq hl1, fun Hb smb => ⟨_, rfl, _, rfl, _, rfl, a, _, rfl, (sma.trans smb).seq hl1, fun q5 h5 => ?_⟩⟩
        have hp1 := hp1.same (sma.trans smb)
        have hg1 := (sma.trans smb) _ _ hg1
        have hl1 := (sma.trans smb).seq hl1
        have sm1 := sm1.trans (sma.trans smb)
        have ecut : cutV (iv (don.flatMap Pm.enc ++ (Pm.enc c ++ r.flatMap Pm.enc))) (some (((don.flatMap Pm.enc).length : Nat) + fStart c)) (some (((don.flatMap Pm.enc).length : Nat) + fEnd c)) = nv (Pm.nums c) := by
          have e2 : don.flatMap Pm.enc ++ (Pm.enc c ++ r.flatMap Pm.enc) = (don.flatMap Pm.enc ++ Pm.headOf c) ++ (Pm.intsN (Pm.nums c) ++ r.flatMap Pm.enc) := by
            rw [Pm.enc_eq]; simp only [List.append_assoc]
          rw [e2, cut_mid (don.flatMap Pm.enc ++ Pm.headOf c) (Pm.intsN (Pm.nums c)) (r.flatMap Pm.enc) ?_ ?_, iv_ints]
          · rw [List.length_append, Pm.headOf_length]; unfold fStart; split <;> simp
          · rw [List.length_append, Pm.headOf_length, Pm.ints_length, fEnd_eq]; unfold fStart; split <;> simp <;> omega
        rw [ecut]
        -- answered = answer_to(passage, calls[place], numbers)
        have h0q : H0 q5 = none := sm1.free h5
        refine ⟨_, rfl, _, rfl, _, rfl, rdXL (sq_new hl1 h5) (iv_get (at_tag (don.flatMap Pm.enc) (r.flatMap Pm.enc) c)) ⟨_, rfl, o, q5, F1, Pm.after Uw32.init don, c, rfl, hp1.new h5, Pm.good_after Pm.good_init don, hfit c hc, SqL.of upd_same, fun H2 F2 r2 hp2 k2 nr2 fr2 hr2 => ?_⟩⟩
        have hg5 : (upd Hb q5 (.lst (nv (Pm.nums c)))) g = some (.lst (iv (Pm.given Uw32.init don))) := by rw [upd_ne (ne_of_none hg1 h5)]; exact hg1
        have hg2 := k2.old g _ hg5 ng1
        have ngr := fr2 g _ hg5 ng1
        have o2 := Pm.out_len (Pm.after Uw32.init don) c
        have l2 := Pm.given_len Uw32.init don
        have ld : don.length ≤ 40 := by have := congrArg List.length ecs; rw [List.length_append] at this; omega
        -- given.append(len(answered))
        refine ⟨_, rfl, .inl ⟨rfl, _, SqL.of hg2⟩, _, rfl, r2, _, rfl, .inl (SqL.of hr2), g, _, _, rfl, rfl, hg2, ?_, ?_⟩
        · rw [iv_length]; exact Nat.lt_of_le_of_lt (Nat.le_trans l2 (Nat.mul_le_mul_left 82 ld)) (by decide)
        -- given.extend(answered)
        refine ⟨_, rfl, .inl ⟨rfl, _, SqL.of upd_same⟩, _, rfl, g, r2, _, _, rfl, rfl, upd_same, (by rw [upd_ne ngr.symm]; exact hr2), ?_, ?_⟩
        · rw [List.length_append, iv_length, iv_length]
          refine Nat.le_trans (m := 82 * 40 + 1 + 81) ?_ (by decide)
          have := Nat.mul_le_mul_left 82 ld
          simp only [List.length_cons, List.length_nil]
          omega
        -- place = end
        refine (rdV rfl ?_)
        rw [upd_upd]
        have sm2 : Same H0 H2 := fun b u hb => by
          have h1 := sm1 b u hb
          have nb : ¬ b ∈ F1 := fun z => by rw [hF1 b z] at hb; cases hb
          exact k2.old b u (by rw [upd_ne (ne_of_none h1 h5)]; exact h1) nb
        have hF2 : ∀ b ∈ F2, H0 b = none := fun b hb => by
          rcases k2.own b hb with z | z
          · exact hF1 b z
          · exact sm1.free (upd_none z).2
        have ng2 : ¬ g ∈ F2 := fun z => by
          rcases k2.own g z with y | y
          · exact ng1 y
          · rw [hg5] at y; cases y
        refine ⟨don ++ [c], r, F2, some (.int (((don.flatMap Pm.enc).length : Nat) + fEnd c)), some (.ref q5), some (.ref r2), by rw [ecs]; simp, rfl, ?_, ?_, ?_, ng2, h0g, fun b u hb => by rw [upd_ne (ne_of_none hb h0g)]; exact sm2 b u hb, hF2⟩
        · have e3 : (((don ++ [c]).flatMap Pm.enc).length : Nat) = (((don.flatMap Pm.enc).length : Nat) : Int) + fEnd c := by
            rw [List.flatMap_append, List.length_append]
            unfold fEnd
            simp
          rw [e3]
          rfl
        · rw [Pm.after_snoc]
          exact hp2.off ng2 hg2
        · rw [upd_same, Pm.given_snoc, iv_append]
          simp [iv]
      · exfalso
        refine q (decide_eq_true ?_)
        rw [iv_length, e1, List.length_append, List.length_append]
        omega
noncomputable def spAnswers (K : PySem.W.Frag) : Sp := fun vs H Q _ => ∃ (a : Addr) (ns : List Int), vs = [.ref a] ∧ SqL K H a (iv ns) ∧ PyUw32.answers_asked ns = true ∧ ∀ (H' : Hp) (g : Addr), H' g = some (.lst (iv (PyUw32.answers ns))) → Q (.ref g) H'
theorem ok_answers (T : Txt K mg D) : FnOk P w K mg base CX0 12 D.f_answers D.d_answers ["calls"] (spAnswers K) := by
  refine T.F_answers.ok sc_answers (fun vs H Q E h => ?_) (fun cdv A outer s H vs Q E hr h => ?_)
  · obtain ⟨a, ns, rfl, _⟩ := h
    rfl
  · obtain ⟨a, ns, rfl, hl, hask, k⟩ := h
    obtain ⟨cs, h40, el, hfit, ea⟩ := Pm.read hask
    rw [el] at hl
    rw [ea] at k
    refine ⟨_, (pss_one (ps_ret (pe_call (ok_answers_about T) (hr.mono (by decide)) (by rfl) T.g_answers_about T.F_answers_about.kp T.b_answers_about .nil pass0 (pa_cons (pe_make0 T.mk_Passage (ok_Passage_init T) (hr.mono (by decide)) (by rfl) T.g_Passage T.b_Passage_init .nil pass0) (pa_cons (pv 0) pa_nil))))), ?_⟩
    intro x dx nx ndx nex
    refine ⟨x, dx, rfl, upd_same, fun H1 F1 hp kp => ⟨rfl, ?_⟩⟩
    have sm : Same H H1 := fun b u hb => kp.old b u (by rw [upd_ne (ne_of_none hb nx), upd_ne (ne_of_none hb ndx)]; exact hb) fun z => by rw [List.mem_singleton.mp z, nx] at hb; cases hb
    refine (rdV rfl ⟨x, a, F1, cs, H, rfl, hp, sm, fun b hb => ?_, hl, hfit, h40, k⟩)
    rcases kp.own b hb with z | z
    · rw [List.mem_singleton.mp z]; exact nx
    · exact (upd_none (upd_none z).2).2
end
end Pa

end
section
set_option Elab.async false
set_option linter.all false
set_option maxRecDepth 100000
set_option maxHeartbeats 2000000
namespace Pa
open PySem PySem.Spec PyProof.Rows L2
open PySem.W (Codec)
set_option maxHeartbeats 4000000 in
theorem all_mk {P : Program} {w : World} {K : PySem.W.Frag} {h : Heap} {mg : Str → Option Value} {fa : Addr} (X : K.In h) (G : h.Ns mainGlobals mg) (hfa : mg "answers" = some (.ref fa))
    {C_Step : Addr}
    {C_Passage : Addr}
    {f_is_extent : Addr} {od_is_extent an_is_extent : Option Addr} {sl_is_extent : Array (Option Value)} {oc_is_extent kV_is_extent dc_is_extent pm_is_extent cd_is_extent ct_is_extent : Value}
    {f_is_row : Addr} {od_is_row an_is_row : Option Addr} {sl_is_row : Array (Option Value)} {oc_is_row kV_is_row dc_is_row pm_is_row cd_is_row ct_is_row : Value}
    {f_told_at : Addr} {od_told_at an_told_at : Option Addr} {sl_told_at : Array (Option Value)} {oc_told_at kV_told_at dc_told_at pm_told_at cd_told_at ct_told_at : Value}
    {f_point_of : Addr} {od_point_of an_point_of : Option Addr} {sl_point_of : Array (Option Value)} {oc_point_of kV_point_of dc_point_of pm_point_of cd_point_of ct_point_of : Value}
    {f_side_of : Addr} {od_side_of an_side_of : Option Addr} {sl_side_of : Array (Option Value)} {oc_side_of kV_side_of dc_side_of pm_side_of cd_side_of ct_side_of : Value}
    {f_stands : Addr} {od_stands an_stands : Option Addr} {sl_stands : Array (Option Value)} {oc_stands kV_stands dc_stands pm_stands cd_stands ct_stands : Value}
    {f_keep_earlier : Addr} {od_keep_earlier an_keep_earlier : Option Addr} {sl_keep_earlier : Array (Option Value)} {oc_keep_earlier kV_keep_earlier dc_keep_earlier pm_keep_earlier cd_keep_earlier ct_keep_earlier : Value}
    {f_Step_init : Addr} {od_Step_init an_Step_init : Option Addr} {sl_Step_init : Array (Option Value)} {oc_Step_init kV_Step_init dc_Step_init pm_Step_init cd_Step_init ct_Step_init : Value}
    {f_Step_turns : Addr} {od_Step_turns an_Step_turns : Option Addr} {sl_Step_turns : Array (Option Value)} {oc_Step_turns kV_Step_turns dc_Step_turns pm_Step_turns cd_Step_turns ct_Step_turns : Value}
    {f_Step_side_behind : Addr} {od_Step_side_behind an_Step_side_behind : Option Addr} {sl_Step_side_behind : Array (Option Value)} {oc_Step_side_behind kV_Step_side_behind dc_Step_side_behind pm_Step_side_behind cd_Step_side_behind ct_Step_side_behind : Value}
    {f_Passage_init : Addr} {od_Passage_init an_Passage_init : Option Addr} {sl_Passage_init : Array (Option Value)} {oc_Passage_init kV_Passage_init dc_Passage_init pm_Passage_init cd_Passage_init ct_Passage_init : Value}
    {f_Passage_lay : Addr} {od_Passage_lay an_Passage_lay : Option Addr} {sl_Passage_lay : Array (Option Value)} {oc_Passage_lay kV_Passage_lay dc_Passage_lay pm_Passage_lay cd_Passage_lay ct_Passage_lay : Value}
    {f_Passage_begins : Addr} {od_Passage_begins an_Passage_begins : Option Addr} {sl_Passage_begins : Array (Option Value)} {oc_Passage_begins kV_Passage_begins dc_Passage_begins pm_Passage_begins cd_Passage_begins ct_Passage_begins : Value}
    {f_Passage_shoal : Addr} {od_Passage_shoal an_Passage_shoal : Option Addr} {sl_Passage_shoal : Array (Option Value)} {oc_Passage_shoal kV_Passage_shoal dc_Passage_shoal pm_Passage_shoal cd_Passage_shoal ct_Passage_shoal : Value}
    {f_Passage_winds : Addr} {od_Passage_winds an_Passage_winds : Option Addr} {sl_Passage_winds : Array (Option Value)} {oc_Passage_winds kV_Passage_winds dc_Passage_winds pm_Passage_winds cd_Passage_winds ct_Passage_winds : Value}
    {f_Passage_strong : Addr} {od_Passage_strong an_Passage_strong : Option Addr} {sl_Passage_strong : Array (Option Value)} {oc_Passage_strong kV_Passage_strong dc_Passage_strong pm_Passage_strong cd_Passage_strong ct_Passage_strong : Value}
    {f_Passage_boat : Addr} {od_Passage_boat an_Passage_boat : Option Addr} {sl_Passage_boat : Array (Option Value)} {oc_Passage_boat kV_Passage_boat dc_Passage_boat pm_Passage_boat cd_Passage_boat ct_Passage_boat : Value}
    {f_Passage_places : Addr} {od_Passage_places an_Passage_places : Option Addr} {sl_Passage_places : Array (Option Value)} {oc_Passage_places kV_Passage_places dc_Passage_places pm_Passage_places cd_Passage_places ct_Passage_places : Value}
    {f_Passage_sail : Addr} {od_Passage_sail an_Passage_sail : Option Addr} {sl_Passage_sail : Array (Option Value)} {oc_Passage_sail kV_Passage_sail dc_Passage_sail pm_Passage_sail cd_Passage_sail ct_Passage_sail : Value}
    {f_Passage_change : Addr} {od_Passage_change an_Passage_change : Option Addr} {sl_Passage_change : Array (Option Value)} {oc_Passage_change kV_Passage_change dc_Passage_change pm_Passage_change cd_Passage_change ct_Passage_change : Value}
    {f_Passage_soonest : Addr} {od_Passage_soonest an_Passage_soonest : Option Addr} {sl_Passage_soonest : Array (Option Value)} {oc_Passage_soonest kV_Passage_soonest dc_Passage_soonest pm_Passage_soonest cd_Passage_soonest ct_Passage_soonest : Value}
    {f_Passage_check : Addr} {od_Passage_check an_Passage_check : Option Addr} {sl_Passage_check : Array (Option Value)} {oc_Passage_check kV_Passage_check dc_Passage_check pm_Passage_check cd_Passage_check ct_Passage_check : Value}
    {f_Passage_has_cell : Addr} {od_Passage_has_cell an_Passage_has_cell : Option Addr} {sl_Passage_has_cell : Array (Option Value)} {oc_Passage_has_cell kV_Passage_has_cell dc_Passage_has_cell pm_Passage_has_cell cd_Passage_has_cell ct_Passage_has_cell : Value}
    {f_Passage_is_way : Addr} {od_Passage_is_way an_Passage_is_way : Option Addr} {sl_Passage_is_way : Array (Option Value)} {oc_Passage_is_way kV_Passage_is_way dc_Passage_is_way pm_Passage_is_way cd_Passage_is_way ct_Passage_is_way : Value}
    {f_Passage_first_stand : Addr} {od_Passage_first_stand an_Passage_first_stand : Option Addr} {sl_Passage_first_stand : Array (Option Value)} {oc_Passage_first_stand kV_Passage_first_stand dc_Passage_first_stand pm_Passage_first_stand cd_Passage_first_stand ct_Passage_first_stand : Value}
    {f_Passage_has_room : Addr} {od_Passage_has_room an_Passage_has_room : Option Addr} {sl_Passage_has_room : Array (Option Value)} {oc_Passage_has_room kV_Passage_has_room dc_Passage_has_room pm_Passage_has_room cd_Passage_has_room ct_Passage_has_room : Value}
    {f_Passage_cell_behind : Addr} {od_Passage_cell_behind an_Passage_cell_behind : Option Addr} {sl_Passage_cell_behind : Array (Option Value)} {oc_Passage_cell_behind kV_Passage_cell_behind dc_Passage_cell_behind pm_Passage_cell_behind cd_Passage_cell_behind ct_Passage_cell_behind : Value}
    {f_Passage_step_at : Addr} {od_Passage_step_at an_Passage_step_at : Option Addr} {sl_Passage_step_at : Array (Option Value)} {oc_Passage_step_at kV_Passage_step_at dc_Passage_step_at pm_Passage_step_at cd_Passage_step_at ct_Passage_step_at : Value}
    {f_Passage_steps_at : Addr} {od_Passage_steps_at an_Passage_steps_at : Option Addr} {sl_Passage_steps_at : Array (Option Value)} {oc_Passage_steps_at kV_Passage_steps_at dc_Passage_steps_at pm_Passage_steps_at cd_Passage_steps_at ct_Passage_steps_at : Value}
    {f_Passage_stand_behind : Addr} {od_Passage_stand_behind an_Passage_stand_behind : Option Addr} {sl_Passage_stand_behind : Array (Option Value)} {oc_Passage_stand_behind kV_Passage_stand_behind dc_Passage_stand_behind pm_Passage_stand_behind cd_Passage_stand_behind ct_Passage_stand_behind : Value}
    {f_Passage_lengthen : Addr} {od_Passage_lengthen an_Passage_lengthen : Option Addr} {sl_Passage_lengthen : Array (Option Value)} {oc_Passage_lengthen kV_Passage_lengthen dc_Passage_lengthen pm_Passage_lengthen cd_Passage_lengthen ct_Passage_lengthen : Value}
    {f_has_row : Addr} {od_has_row an_has_row : Option Addr} {sl_has_row : Array (Option Value)} {oc_has_row kV_has_row dc_has_row pm_has_row cd_has_row ct_has_row : Value}
    {f_numbers_start : Addr} {od_numbers_start an_numbers_start : Option Addr} {sl_numbers_start : Array (Option Value)} {oc_numbers_start kV_numbers_start dc_numbers_start pm_numbers_start cd_numbers_start ct_numbers_start : Value}
    {f_numbers_end : Addr} {od_numbers_end an_numbers_end : Option Addr} {sl_numbers_end : Array (Option Value)} {oc_numbers_end kV_numbers_end dc_numbers_end pm_numbers_end cd_numbers_end ct_numbers_end : Value}
    {f_answer_to : Addr} {od_answer_to an_answer_to : Option Addr} {sl_answer_to : Array (Option Value)} {oc_answer_to kV_answer_to dc_answer_to pm_answer_to cd_answer_to ct_answer_to : Value}
    {f_answers_about : Addr} {od_answers_about an_answers_about : Option Addr} {sl_answers_about : Array (Option Value)} {oc_answers_about kV_answers_about dc_answers_about pm_answers_about cd_answers_about ct_answers_about : Value}
    {f_answers : Addr} {od_answers an_answers : Option Addr} {sl_answers : Array (Option Value)} {oc_answers kV_answers dc_answers pm_answers cd_answers ct_answers : Value}
    {t1 : Tok}
    {t2 : Tok}
    {t3 : Tok}
    {t4 : Tok}
    {t5 : Tok}
    {t6 : Tok}
    {t7 : Tok}
    {t8 : Tok}
    {t9 : Tok}
    {t10 : Tok}
    {a_NUMBERS : Addr} {od_NUMBERS : Option Addr} {sl_NUMBERS : Array (Option Value)} {nn_NUMBERS : Nat}
    {t11 : Tok}
    {t12 : Tok}
    {t13 : Tok}
    {t14 : Tok}
    {t15 : Tok}
    {t16 : Tok}
    {t17 : Tok}
    {t18 : Tok}
    {t19 : Tok}
    {t20 : Tok}
    {t21 : Tok}
    {t22 : Tok}
    {t23 : Tok}
    {t24 : Tok}
    {t25 : Tok}
    {t26 : Tok}
    {t27 : Tok}
    {t28 : Tok}
    {t29 : Tok}
    {t30 : Tok}
    {t31 : Tok}
    {t32 : Tok}
    {t33 : Tok}
    {t34 : Tok}
    {t35 : Tok}
    {a_RIGHTWARD : Addr} {od_RIGHTWARD : Option Addr} {sl_RIGHTWARD : Array (Option Value)} {nn_RIGHTWARD : Nat}
    {t36 : Tok}
    {t37 : Tok}
    {t38 : Tok}
    {t39 : Tok}
    {t40 : Tok}
    {t41 : Tok}
    {t42 : Tok}
    {t43 : Tok}
    {a_DOWNWARD : Addr} {od_DOWNWARD : Option Addr} {sl_DOWNWARD : Array (Option Value)} {nn_DOWNWARD : Nat}
    {t44 : Tok}
    {t45 : Tok}
    {t46 : Tok}
    {t47 : Tok}
    {t48 : Tok}
    {t49 : Tok}
    {t50 : Tok}
    {t51 : Tok}
    {t52 : Tok}
    {t53 : Tok}
    {t54 : Tok}
    {t55 : Tok}
    {t56 : Tok}
    {t57 : Tok}
    {t58 : Tok}
    {t59 : Tok}
    {t60 : Tok}
    {t61 : Tok}
    (a_Step : PySem.W.nsIn K mainGlobals "Step" = some (some (.ref C_Step)))
    (a_Passage : PySem.W.nsIn K mainGlobals "Passage" = some (some (.ref C_Passage)))
    (a_is_extent : PySem.W.nsIn K mainGlobals "is_extent" = some (some (.ref f_is_extent)))
    (l_is_extent : K.lookup f_is_extent = some ⟨oc_is_extent, od_is_extent, .func (PySem.W.fnOf "is_extent" "is_extent" (defArgs s_is_extent) (defBody s_is_extent) (defScope s_is_extent) .none kV_is_extent dc_is_extent pm_is_extent an_is_extent cd_is_extent ct_is_extent), sl_is_extent⟩)
    (c_is_extent : PySem.W.codeIn K cd_is_extent "is_extent" = true)
    (k_is_extent : PySem.W.keepIn K (.ref f_is_extent) = true)
    (a_is_row : PySem.W.nsIn K mainGlobals "is_row" = some (some (.ref f_is_row)))
    (l_is_row : K.lookup f_is_row = some ⟨oc_is_row, od_is_row, .func (PySem.W.fnOf "is_row" "is_row" (defArgs s_is_row) (defBody s_is_row) (defScope s_is_row) .none kV_is_row dc_is_row pm_is_row an_is_row cd_is_row ct_is_row), sl_is_row⟩)
    (c_is_row : PySem.W.codeIn K cd_is_row "is_row" = true)
    (k_is_row : PySem.W.keepIn K (.ref f_is_row) = true)
    (a_told_at : PySem.W.nsIn K mainGlobals "told_at" = some (some (.ref f_told_at)))
    (l_told_at : K.lookup f_told_at = some ⟨oc_told_at, od_told_at, .func (PySem.W.fnOf "told_at" "told_at" (defArgs s_told_at) (defBody s_told_at) (defScope s_told_at) .none kV_told_at dc_told_at pm_told_at an_told_at cd_told_at ct_told_at), sl_told_at⟩)
    (c_told_at : PySem.W.codeIn K cd_told_at "told_at" = true)
    (k_told_at : PySem.W.keepIn K (.ref f_told_at) = true)
    (a_point_of : PySem.W.nsIn K mainGlobals "point_of" = some (some (.ref f_point_of)))
    (l_point_of : K.lookup f_point_of = some ⟨oc_point_of, od_point_of, .func (PySem.W.fnOf "point_of" "point_of" (defArgs s_point_of) (defBody s_point_of) (defScope s_point_of) .none kV_point_of dc_point_of pm_point_of an_point_of cd_point_of ct_point_of), sl_point_of⟩)
    (c_point_of : PySem.W.codeIn K cd_point_of "point_of" = true)
    (k_point_of : PySem.W.keepIn K (.ref f_point_of) = true)
    (a_side_of : PySem.W.nsIn K mainGlobals "side_of" = some (some (.ref f_side_of)))
    (l_side_of : K.lookup f_side_of = some ⟨oc_side_of, od_side_of, .func (PySem.W.fnOf "side_of" "side_of" (defArgs s_side_of) (defBody s_side_of) (defScope s_side_of) .none kV_side_of dc_side_of pm_side_of an_side_of cd_side_of ct_side_of), sl_side_of⟩)
    (c_side_of : PySem.W.codeIn K cd_side_of "side_of" = true)
    (k_side_of : PySem.W.keepIn K (.ref f_side_of) = true)
    (a_stands : PySem.W.nsIn K mainGlobals "stands" = some (some (.ref f_stands)))
    (l_stands : K.lookup f_stands = some ⟨oc_stands, od_stands, .func (PySem.W.fnOf "stands" "stands" (defArgs s_stands) (defBody s_stands) (defScope s_stands) .none kV_stands dc_stands pm_stands an_stands cd_stands ct_stands), sl_stands⟩)
    (c_stands : PySem.W.codeIn K cd_stands "stands" = true)
    (k_stands : PySem.W.keepIn K (.ref f_stands) = true)
    (a_keep_earlier : PySem.W.nsIn K mainGlobals "keep_earlier" = some (some (.ref f_keep_earlier)))
    (l_keep_earlier : K.lookup f_keep_earlier = some ⟨oc_keep_earlier, od_keep_earlier, .func (PySem.W.fnOf "keep_earlier" "keep_earlier" (defArgs s_keep_earlier) (defBody s_keep_earlier) (defScope s_keep_earlier) .none kV_keep_earlier dc_keep_earlier pm_keep_earlier an_keep_earlier cd_keep_earlier ct_keep_earlier), sl_keep_earlier⟩)
    (c_keep_earlier : PySem.W.codeIn K cd_keep_earlier "keep_earlier" = true)
    (k_keep_earlier : PySem.W.keepIn K (.ref f_keep_earlier) = true)
    (a_Step_init : PySem.W.findIn K (.ref C_Step) "__init__" = some (some (.ref f_Step_init)))
    (i_Step_init : PySem.W.isFn K (.ref f_Step_init) = true)
    (l_Step_init : K.lookup f_Step_init = some ⟨oc_Step_init, od_Step_init, .func (PySem.W.fnOf "__init__" "Step.__init__" (defArgs s_Step_init) (defBody s_Step_init) (defScope s_Step_init) .none kV_Step_init dc_Step_init pm_Step_init an_Step_init cd_Step_init ct_Step_init), sl_Step_init⟩)
    (c_Step_init : PySem.W.codeIn K cd_Step_init "Step.__init__" = true)
    (k_Step_init : PySem.W.keepIn K (.ref f_Step_init) = true)
    (a_Step_turns : PySem.W.findIn K (.ref C_Step) "turns" = some (some (.ref f_Step_turns)))
    (i_Step_turns : PySem.W.isFn K (.ref f_Step_turns) = true)
    (l_Step_turns : K.lookup f_Step_turns = some ⟨oc_Step_turns, od_Step_turns, .func (PySem.W.fnOf "turns" "Step.turns" (defArgs s_Step_turns) (defBody s_Step_turns) (defScope s_Step_turns) .none kV_Step_turns dc_Step_turns pm_Step_turns an_Step_turns cd_Step_turns ct_Step_turns), sl_Step_turns⟩)
    (c_Step_turns : PySem.W.codeIn K cd_Step_turns "Step.turns" = true)
    (k_Step_turns : PySem.W.keepIn K (.ref f_Step_turns) = true)
    (a_Step_side_behind : PySem.W.findIn K (.ref C_Step) "side_behind" = some (some (.ref f_Step_side_behind)))
    (i_Step_side_behind : PySem.W.isFn K (.ref f_Step_side_behind) = true)
    (l_Step_side_behind : K.lookup f_Step_side_behind = some ⟨oc_Step_side_behind, od_Step_side_behind, .func (PySem.W.fnOf "side_behind" "Step.side_behind" (defArgs s_Step_side_behind) (defBody s_Step_side_behind) (defScope s_Step_side_behind) .none kV_Step_side_behind dc_Step_side_behind pm_Step_side_behind an_Step_side_behind cd_Step_side_behind ct_Step_side_behind), sl_Step_side_behind⟩)
    (c_Step_side_behind : PySem.W.codeIn K cd_Step_side_behind "Step.side_behind" = true)
    (k_Step_side_behind : PySem.W.keepIn K (.ref f_Step_side_behind) = true)
    (a_Passage_init : PySem.W.findIn K (.ref C_Passage) "__init__" = some (some (.ref f_Passage_init)))
    (i_Passage_init : PySem.W.isFn K (.ref f_Passage_init) = true)
    (l_Passage_init : K.lookup f_Passage_init = some ⟨oc_Passage_init, od_Passage_init, .func (PySem.W.fnOf "__init__" "Passage.__init__" (defArgs s_Passage_init) (defBody s_Passage_init) (defScope s_Passage_init) .none kV_Passage_init dc_Passage_init pm_Passage_init an_Passage_init cd_Passage_init ct_Passage_init), sl_Passage_init⟩)
    (c_Passage_init : PySem.W.codeIn K cd_Passage_init "Passage.__init__" = true)
    (k_Passage_init : PySem.W.keepIn K (.ref f_Passage_init) = true)
    (a_Passage_lay : PySem.W.findIn K (.ref C_Passage) "lay" = some (some (.ref f_Passage_lay)))
    (i_Passage_lay : PySem.W.isFn K (.ref f_Passage_lay) = true)
    (l_Passage_lay : K.lookup f_Passage_lay = some ⟨oc_Passage_lay, od_Passage_lay, .func (PySem.W.fnOf "lay" "Passage.lay" (defArgs s_Passage_lay) (defBody s_Passage_lay) (defScope s_Passage_lay) .none kV_Passage_lay dc_Passage_lay pm_Passage_lay an_Passage_lay cd_Passage_lay ct_Passage_lay), sl_Passage_lay⟩)
    (c_Passage_lay : PySem.W.codeIn K cd_Passage_lay "Passage.lay" = true)
    (k_Passage_lay : PySem.W.keepIn K (.ref f_Passage_lay) = true)
    (a_Passage_begins : PySem.W.findIn K (.ref C_Passage) "begins" = some (some (.ref f_Passage_begins)))
    (i_Passage_begins : PySem.W.isFn K (.ref f_Passage_begins) = true)
    (l_Passage_begins : K.lookup f_Passage_begins = some ⟨oc_Passage_begins, od_Passage_begins, .func (PySem.W.fnOf "begins" "Passage.begins" (defArgs s_Passage_begins) (defBody s_Passage_begins) (defScope s_Passage_begins) .none kV_Passage_begins dc_Passage_begins pm_Passage_begins an_Passage_begins cd_Passage_begins ct_Passage_begins), sl_Passage_begins⟩)
    (c_Passage_begins : PySem.W.codeIn K cd_Passage_begins "Passage.begins" = true)
    (k_Passage_begins : PySem.W.keepIn K (.ref f_Passage_begins) = true)
    (a_Passage_shoal : PySem.W.findIn K (.ref C_Passage) "shoal" = some (some (.ref f_Passage_shoal)))
    (i_Passage_shoal : PySem.W.isFn K (.ref f_Passage_shoal) = true)
    (l_Passage_shoal : K.lookup f_Passage_shoal = some ⟨oc_Passage_shoal, od_Passage_shoal, .func (PySem.W.fnOf "shoal" "Passage.shoal" (defArgs s_Passage_shoal) (defBody s_Passage_shoal) (defScope s_Passage_shoal) .none kV_Passage_shoal dc_Passage_shoal pm_Passage_shoal an_Passage_shoal cd_Passage_shoal ct_Passage_shoal), sl_Passage_shoal⟩)
    (c_Passage_shoal : PySem.W.codeIn K cd_Passage_shoal "Passage.shoal" = true)
    (k_Passage_shoal : PySem.W.keepIn K (.ref f_Passage_shoal) = true)
    (a_Passage_winds : PySem.W.findIn K (.ref C_Passage) "winds" = some (some (.ref f_Passage_winds)))
    (i_Passage_winds : PySem.W.isFn K (.ref f_Passage_winds) = true)
    (l_Passage_winds : K.lookup f_Passage_winds = some ⟨oc_Passage_winds, od_Passage_winds, .func (PySem.W.fnOf "winds" "Passage.winds" (defArgs s_Passage_winds) (defBody s_Passage_winds) (defScope s_Passage_winds) .none kV_Passage_winds dc_Passage_winds pm_Passage_winds an_Passage_winds cd_Passage_winds ct_Passage_winds), sl_Passage_winds⟩)
    (c_Passage_winds : PySem.W.codeIn K cd_Passage_winds "Passage.winds" = true)
    (k_Passage_winds : PySem.W.keepIn K (.ref f_Passage_winds) = true)
    (a_Passage_strong : PySem.W.findIn K (.ref C_Passage) "strong" = some (some (.ref f_Passage_strong)))
    (i_Passage_strong : PySem.W.isFn K (.ref f_Passage_strong) = true)
    (l_Passage_strong : K.lookup f_Passage_strong = some ⟨oc_Passage_strong, od_Passage_strong, .func (PySem.W.fnOf "strong" "Passage.strong" (defArgs s_Passage_strong) (defBody s_Passage_strong) (defScope s_Passage_strong) .none kV_Passage_strong dc_Passage_strong pm_Passage_strong an_Passage_strong cd_Passage_strong ct_Passage_strong), sl_Passage_strong⟩)
    (c_Passage_strong : PySem.W.codeIn K cd_Passage_strong "Passage.strong" = true)
    (k_Passage_strong : PySem.W.keepIn K (.ref f_Passage_strong) = true)
    (a_Passage_boat : PySem.W.findIn K (.ref C_Passage) "boat" = some (some (.ref f_Passage_boat)))
    (i_Passage_boat : PySem.W.isFn K (.ref f_Passage_boat) = true)
    (l_Passage_boat : K.lookup f_Passage_boat = some ⟨oc_Passage_boat, od_Passage_boat, .func (PySem.W.fnOf "boat" "Passage.boat" (defArgs s_Passage_boat) (defBody s_Passage_boat) (defScope s_Passage_boat) .none kV_Passage_boat dc_Passage_boat pm_Passage_boat an_Passage_boat cd_Passage_boat ct_Passage_boat), sl_Passage_boat⟩)
    (c_Passage_boat : PySem.W.codeIn K cd_Passage_boat "Passage.boat" = true)
    (k_Passage_boat : PySem.W.keepIn K (.ref f_Passage_boat) = true)
    (a_Passage_places : PySem.W.findIn K (.ref C_Passage) "places" = some (some (.ref f_Passage_places)))
    (i_Passage_places : PySem.W.isFn K (.ref f_Passage_places) = true)
    (l_Passage_places : K.lookup f_Passage_places = some ⟨oc_Passage_places, od_Passage_places, .func (PySem.W.fnOf "places" "Passage.places" (defArgs s_Passage_places) (defBody s_Passage_places) (defScope s_Passage_places) .none kV_Passage_places dc_Passage_places pm_Passage_places an_Passage_places cd_Passage_places ct_Passage_places), sl_Passage_places⟩)
    (c_Passage_places : PySem.W.codeIn K cd_Passage_places "Passage.places" = true)
    (k_Passage_places : PySem.W.keepIn K (.ref f_Passage_places) = true)
    (a_Passage_sail : PySem.W.findIn K (.ref C_Passage) "sail" = some (some (.ref f_Passage_sail)))
    (i_Passage_sail : PySem.W.isFn K (.ref f_Passage_sail) = true)
    (l_Passage_sail : K.lookup f_Passage_sail = some ⟨oc_Passage_sail, od_Passage_sail, .func (PySem.W.fnOf "sail" "Passage.sail" (defArgs s_Passage_sail) (defBody s_Passage_sail) (defScope s_Passage_sail) .none kV_Passage_sail dc_Passage_sail pm_Passage_sail an_Passage_sail cd_Passage_sail ct_Passage_sail), sl_Passage_sail⟩)
    (c_Passage_sail : PySem.W.codeIn K cd_Passage_sail "Passage.sail" = true)
    (k_Passage_sail : PySem.W.keepIn K (.ref f_Passage_sail) = true)
    (a_Passage_change : PySem.W.findIn K (.ref C_Passage) "change" = some (some (.ref f_Passage_change)))
    (i_Passage_change : PySem.W.isFn K (.ref f_Passage_change) = true)
    (l_Passage_change : K.lookup f_Passage_change = some ⟨oc_Passage_change, od_Passage_change, .func (PySem.W.fnOf "change" "Passage.change" (defArgs s_Passage_change) (defBody s_Passage_change) (defScope s_Passage_change) .none kV_Passage_change dc_Passage_change pm_Passage_change an_Passage_change cd_Passage_change ct_Passage_change), sl_Passage_change⟩)
    (c_Passage_change : PySem.W.codeIn K cd_Passage_change "Passage.change" = true)
    (k_Passage_change : PySem.W.keepIn K (.ref f_Passage_change) = true)
    (a_Passage_soonest : PySem.W.findIn K (.ref C_Passage) "soonest" = some (some (.ref f_Passage_soonest)))
    (i_Passage_soonest : PySem.W.isFn K (.ref f_Passage_soonest) = true)
    (l_Passage_soonest : K.lookup f_Passage_soonest = some ⟨oc_Passage_soonest, od_Passage_soonest, .func (PySem.W.fnOf "soonest" "Passage.soonest" (defArgs s_Passage_soonest) (defBody s_Passage_soonest) (defScope s_Passage_soonest) .none kV_Passage_soonest dc_Passage_soonest pm_Passage_soonest an_Passage_soonest cd_Passage_soonest ct_Passage_soonest), sl_Passage_soonest⟩)
    (c_Passage_soonest : PySem.W.codeIn K cd_Passage_soonest "Passage.soonest" = true)
    (k_Passage_soonest : PySem.W.keepIn K (.ref f_Passage_soonest) = true)
    (a_Passage_check : PySem.W.findIn K (.ref C_Passage) "check" = some (some (.ref f_Passage_check)))
    (i_Passage_check : PySem.W.isFn K (.ref f_Passage_check) = true)
    (l_Passage_check : K.lookup f_Passage_check = some ⟨oc_Passage_check, od_Passage_check, .func (PySem.W.fnOf "check" "Passage.check" (defArgs s_Passage_check) (defBody s_Passage_check) (defScope s_Passage_check) .none kV_Passage_check dc_Passage_check pm_Passage_check an_Passage_check cd_Passage_check ct_Passage_check), sl_Passage_check⟩)
    (c_Passage_check : PySem.W.codeIn K cd_Passage_check "Passage.check" = true)
    (k_Passage_check : PySem.W.keepIn K (.ref f_Passage_check) = true)
    (a_Passage_has_cell : PySem.W.findIn K (.ref C_Passage) "has_cell" = some (some (.ref f_Passage_has_cell)))
    (i_Passage_has_cell : PySem.W.isFn K (.ref f_Passage_has_cell) = true)
    (l_Passage_has_cell : K.lookup f_Passage_has_cell = some ⟨oc_Passage_has_cell, od_Passage_has_cell, .func (PySem.W.fnOf "has_cell" "Passage.has_cell" (defArgs s_Passage_has_cell) (defBody s_Passage_has_cell) (defScope s_Passage_has_cell) .none kV_Passage_has_cell dc_Passage_has_cell pm_Passage_has_cell an_Passage_has_cell cd_Passage_has_cell ct_Passage_has_cell), sl_Passage_has_cell⟩)
    (c_Passage_has_cell : PySem.W.codeIn K cd_Passage_has_cell "Passage.has_cell" = true)
    (k_Passage_has_cell : PySem.W.keepIn K (.ref f_Passage_has_cell) = true)
    (a_Passage_is_way : PySem.W.findIn K (.ref C_Passage) "is_way" = some (some (.ref f_Passage_is_way)))
    (i_Passage_is_way : PySem.W.isFn K (.ref f_Passage_is_way) = true)
    (l_Passage_is_way : K.lookup f_Passage_is_way = some ⟨oc_Passage_is_way, od_Passage_is_way, .func (PySem.W.fnOf "is_way" "Passage.is_way" (defArgs s_Passage_is_way) (defBody s_Passage_is_way) (defScope s_Passage_is_way) .none kV_Passage_is_way dc_Passage_is_way pm_Passage_is_way an_Passage_is_way cd_Passage_is_way ct_Passage_is_way), sl_Passage_is_way⟩)
    (c_Passage_is_way : PySem.W.codeIn K cd_Passage_is_way "Passage.is_way" = true)
    (k_Passage_is_way : PySem.W.keepIn K (.ref f_Passage_is_way) = true)
    (a_Passage_first_stand : PySem.W.findIn K (.ref C_Passage) "first_stand" = some (some (.ref f_Passage_first_stand)))
    (i_Passage_first_stand : PySem.W.isFn K (.ref f_Passage_first_stand) = true)
    (l_Passage_first_stand : K.lookup f_Passage_first_stand = some ⟨oc_Passage_first_stand, od_Passage_first_stand, .func (PySem.W.fnOf "first_stand" "Passage.first_stand" (defArgs s_Passage_first_stand) (defBody s_Passage_first_stand) (defScope s_Passage_first_stand) .none kV_Passage_first_stand dc_Passage_first_stand pm_Passage_first_stand an_Passage_first_stand cd_Passage_first_stand ct_Passage_first_stand), sl_Passage_first_stand⟩)
    (c_Passage_first_stand : PySem.W.codeIn K cd_Passage_first_stand "Passage.first_stand" = true)
    (k_Passage_first_stand : PySem.W.keepIn K (.ref f_Passage_first_stand) = true)
    (a_Passage_has_room : PySem.W.findIn K (.ref C_Passage) "has_room" = some (some (.ref f_Passage_has_room)))
    (i_Passage_has_room : PySem.W.isFn K (.ref f_Passage_has_room) = true)
    (l_Passage_has_room : K.lookup f_Passage_has_room = some ⟨oc_Passage_has_room, od_Passage_has_room, .func (PySem.W.fnOf "has_room" "Passage.has_room" (defArgs s_Passage_has_room) (defBody s_Passage_has_room) (defScope s_Passage_has_room) .none kV_Passage_has_room dc_Passage_has_room pm_Passage_has_room an_Passage_has_room cd_Passage_has_room ct_Passage_has_room), sl_Passage_has_room⟩)
    (c_Passage_has_room : PySem.W.codeIn K cd_Passage_has_room "Passage.has_room" = true)
    (k_Passage_has_room : PySem.W.keepIn K (.ref f_Passage_has_room) = true)
    (a_Passage_cell_behind : PySem.W.findIn K (.ref C_Passage) "cell_behind" = some (some (.ref f_Passage_cell_behind)))
    (i_Passage_cell_behind : PySem.W.isFn K (.ref f_Passage_cell_behind) = true)
    (l_Passage_cell_behind : K.lookup f_Passage_cell_behind = some ⟨oc_Passage_cell_behind, od_Passage_cell_behind, .func (PySem.W.fnOf "cell_behind" "Passage.cell_behind" (defArgs s_Passage_cell_behind) (defBody s_Passage_cell_behind) (defScope s_Passage_cell_behind) .none kV_Passage_cell_behind dc_Passage_cell_behind pm_Passage_cell_behind an_Passage_cell_behind cd_Passage_cell_behind ct_Passage_cell_behind), sl_Passage_cell_behind⟩)
    (c_Passage_cell_behind : PySem.W.codeIn K cd_Passage_cell_behind "Passage.cell_behind" = true)
    (k_Passage_cell_behind : PySem.W.keepIn K (.ref f_Passage_cell_behind) = true)
    (a_Passage_step_at : PySem.W.findIn K (.ref C_Passage) "step_at" = some (some (.ref f_Passage_step_at)))
    (i_Passage_step_at : PySem.W.isFn K (.ref f_Passage_step_at) = true)
    (l_Passage_step_at : K.lookup f_Passage_step_at = some ⟨oc_Passage_step_at, od_Passage_step_at, .func (PySem.W.fnOf "step_at" "Passage.step_at" (defArgs s_Passage_step_at) (defBody s_Passage_step_at) (defScope s_Passage_step_at) .none kV_Passage_step_at dc_Passage_step_at pm_Passage_step_at an_Passage_step_at cd_Passage_step_at ct_Passage_step_at), sl_Passage_step_at⟩)
    (c_Passage_step_at : PySem.W.codeIn K cd_Passage_step_at "Passage.step_at" = true)
    (k_Passage_step_at : PySem.W.keepIn K (.ref f_Passage_step_at) = true)
    (a_Passage_steps_at : PySem.W.findIn K (.ref C_Passage) "steps_at" = some (some (.ref f_Passage_steps_at)))
    (i_Passage_steps_at : PySem.W.isFn K (.ref f_Passage_steps_at) = true)
    (l_Passage_steps_at : K.lookup f_Passage_steps_at = some ⟨oc_Passage_steps_at, od_Passage_steps_at, .func (PySem.W.fnOf "steps_at" "Passage.steps_at" (defArgs s_Passage_steps_at) (defBody s_Passage_steps_at) (defScope s_Passage_steps_at) .none kV_Passage_steps_at dc_Passage_steps_at pm_Passage_steps_at an_Passage_steps_at cd_Passage_steps_at ct_Passage_steps_at), sl_Passage_steps_at⟩)
    (c_Passage_steps_at : PySem.W.codeIn K cd_Passage_steps_at "Passage.steps_at" = true)
    (k_Passage_steps_at : PySem.W.keepIn K (.ref f_Passage_steps_at) = true)
    (a_Passage_stand_behind : PySem.W.findIn K (.ref C_Passage) "stand_behind" = some (some (.ref f_Passage_stand_behind)))
    (i_Passage_stand_behind : PySem.W.isFn K (.ref f_Passage_stand_behind) = true)
    (l_Passage_stand_behind : K.lookup f_Passage_stand_behind = some ⟨oc_Passage_stand_behind, od_Passage_stand_behind, .func (PySem.W.fnOf "stand_behind" "Passage.stand_behind" (defArgs s_Passage_stand_behind) (defBody s_Passage_stand_behind) (defScope s_Passage_stand_behind) .none kV_Passage_stand_behind dc_Passage_stand_behind pm_Passage_stand_behind an_Passage_stand_behind cd_Passage_stand_behind ct_Passage_stand_behind), sl_Passage_stand_behind⟩)
    (c_Passage_stand_behind : PySem.W.codeIn K cd_Passage_stand_behind "Passage.stand_behind" = true)
    (k_Passage_stand_behind : PySem.W.keepIn K (.ref f_Passage_stand_behind) = true)
    (a_Passage_lengthen : PySem.W.findIn K (.ref C_Passage) "lengthen" = some (some (.ref f_Passage_lengthen)))
    (i_Passage_lengthen : PySem.W.isFn K (.ref f_Passage_lengthen) = true)
    (l_Passage_lengthen : K.lookup f_Passage_lengthen = some ⟨oc_Passage_lengthen, od_Passage_lengthen, .func (PySem.W.fnOf "lengthen" "Passage.lengthen" (defArgs s_Passage_lengthen) (defBody s_Passage_lengthen) (defScope s_Passage_lengthen) .none kV_Passage_lengthen dc_Passage_lengthen pm_Passage_lengthen an_Passage_lengthen cd_Passage_lengthen ct_Passage_lengthen), sl_Passage_lengthen⟩)
    (c_Passage_lengthen : PySem.W.codeIn K cd_Passage_lengthen "Passage.lengthen" = true)
    (k_Passage_lengthen : PySem.W.keepIn K (.ref f_Passage_lengthen) = true)
    (a_has_row : PySem.W.nsIn K mainGlobals "has_row" = some (some (.ref f_has_row)))
    (l_has_row : K.lookup f_has_row = some ⟨oc_has_row, od_has_row, .func (PySem.W.fnOf "has_row" "has_row" (defArgs s_has_row) (defBody s_has_row) (defScope s_has_row) .none kV_has_row dc_has_row pm_has_row an_has_row cd_has_row ct_has_row), sl_has_row⟩)
    (c_has_row : PySem.W.codeIn K cd_has_row "has_row" = true)
    (k_has_row : PySem.W.keepIn K (.ref f_has_row) = true)
    (a_numbers_start : PySem.W.nsIn K mainGlobals "numbers_start" = some (some (.ref f_numbers_start)))
    (l_numbers_start : K.lookup f_numbers_start = some ⟨oc_numbers_start, od_numbers_start, .func (PySem.W.fnOf "numbers_start" "numbers_start" (defArgs s_numbers_start) (defBody s_numbers_start) (defScope s_numbers_start) .none kV_numbers_start dc_numbers_start pm_numbers_start an_numbers_start cd_numbers_start ct_numbers_start), sl_numbers_start⟩)
    (c_numbers_start : PySem.W.codeIn K cd_numbers_start "numbers_start" = true)
    (k_numbers_start : PySem.W.keepIn K (.ref f_numbers_start) = true)
    (a_numbers_end : PySem.W.nsIn K mainGlobals "numbers_end" = some (some (.ref f_numbers_end)))
    (l_numbers_end : K.lookup f_numbers_end = some ⟨oc_numbers_end, od_numbers_end, .func (PySem.W.fnOf "numbers_end" "numbers_end" (defArgs s_numbers_end) (defBody s_numbers_end) (defScope s_numbers_end) .none kV_numbers_end dc_numbers_end pm_numbers_end an_numbers_end cd_numbers_end ct_numbers_end), sl_numbers_end⟩)
    (c_numbers_end : PySem.W.codeIn K cd_numbers_end "numbers_end" = true)
    (k_numbers_end : PySem.W.keepIn K (.ref f_numbers_end) = true)
    (a_answer_to : PySem.W.nsIn K mainGlobals "answer_to" = some (some (.ref f_answer_to)))
    (l_answer_to : K.lookup f_answer_to = some ⟨oc_answer_to, od_answer_to, .func (PySem.W.fnOf "answer_to" "answer_to" (defArgs s_answer_to) (defBody s_answer_to) (defScope s_answer_to) .none kV_answer_to dc_answer_to pm_answer_to an_answer_to cd_answer_to ct_answer_to), sl_answer_to⟩)
    (c_answer_to : PySem.W.codeIn K cd_answer_to "answer_to" = true)
    (k_answer_to : PySem.W.keepIn K (.ref f_answer_to) = true)
    (a_answers_about : PySem.W.nsIn K mainGlobals "answers_about" = some (some (.ref f_answers_about)))
    (l_answers_about : K.lookup f_answers_about = some ⟨oc_answers_about, od_answers_about, .func (PySem.W.fnOf "answers_about" "answers_about" (defArgs s_answers_about) (defBody s_answers_about) (defScope s_answers_about) .none kV_answers_about dc_answers_about pm_answers_about an_answers_about cd_answers_about ct_answers_about), sl_answers_about⟩)
    (c_answers_about : PySem.W.codeIn K cd_answers_about "answers_about" = true)
    (k_answers_about : PySem.W.keepIn K (.ref f_answers_about) = true)
    (a_answers : PySem.W.nsIn K mainGlobals "answers" = some (some (.ref f_answers)))
    (l_answers : K.lookup f_answers = some ⟨oc_answers, od_answers, .func (PySem.W.fnOf "answers" "answers" (defArgs s_answers) (defBody s_answers) (defScope s_answers) .none kV_answers dc_answers pm_answers an_answers cd_answers ct_answers), sl_answers⟩)
    (c_answers : PySem.W.codeIn K cd_answers "answers" = true)
    (k_answers : PySem.W.keepIn K (.ref f_answers) = true)
    (pg_Step : PySem.W.plainGet K C_Step Str.empty = true)
    (hd_Step : PySem.W.hasDictIn K C_Step = true)
    (po_Step : PySem.W.plainOver K C_Step = true)
    (sa_Step : PySem.W.findIn K (.ref C_Step) "__setattr__" = some (some (.builtin "object.__setattr__")))
    (mk_Step : PySem.W.makesIn K C_Step = true)
    (kc_Step : PySem.W.keepIn K (.ref C_Step) = true)
    (pg_Passage : PySem.W.plainGet K C_Passage Str.empty = true)
    (hd_Passage : PySem.W.hasDictIn K C_Passage = true)
    (po_Passage : PySem.W.plainOver K C_Passage = true)
    (sa_Passage : PySem.W.findIn K (.ref C_Passage) "__setattr__" = some (some (.builtin "object.__setattr__")))
    (mk_Passage : PySem.W.makesIn K C_Passage = true)
    (kc_Passage : PySem.W.keepIn K (.ref C_Passage) = true)
    (nf_Step_heading : PySem.W.findIn K (.ref C_Step) "heading" = some none)
    (nf_Step_with_sail : PySem.W.findIn K (.ref C_Step) "with_sail" = some none)
    (nf_Step_side : PySem.W.findIn K (.ref C_Step) "side" = some none)
    (nf_Step_minutes : PySem.W.findIn K (.ref C_Step) "minutes" = some none)
    (nf_Passage_wide : PySem.W.findIn K (.ref C_Passage) "wide" = some none)
    (nf_Passage_high : PySem.W.findIn K (.ref C_Passage) "high" = some none)
    (nf_Passage_shoals : PySem.W.findIn K (.ref C_Passage) "shoals" = some none)
    (nf_Passage_wind_row : PySem.W.findIn K (.ref C_Passage) "wind_row" = some none)
    (nf_Passage_strength_row : PySem.W.findIn K (.ref C_Passage) "strength_row" = some none)
    (nf_Passage_step_minutes : PySem.W.findIn K (.ref C_Passage) "step_minutes" = some none)
    (nf_Passage_turn_minutes : PySem.W.findIn K (.ref C_Passage) "turn_minutes" = some none)
    (nf_Passage_change_minutes : PySem.W.findIn K (.ref C_Passage) "change_minutes" = some none)
    (nf_Passage_sails : PySem.W.findIn K (.ref C_Passage) "sails" = some none)
    (nf_Passage_boat_cell : PySem.W.findIn K (.ref C_Passage) "boat_cell" = some none)
    (nf_Passage_mark_cell : PySem.W.findIn K (.ref C_Passage) "mark_cell" = some none)
    (q_BEGINS : PySem.W.nsIn K mainGlobals "BEGINS" = some (some (.int 0 t1)))
    (q_SHOAL : PySem.W.nsIn K mainGlobals "SHOAL" = some (some (.int 1 t2)))
    (q_WINDS : PySem.W.nsIn K mainGlobals "WINDS" = some (some (.int 2 t3)))
    (q_STRONG : PySem.W.nsIn K mainGlobals "STRONG" = some (some (.int 3 t4)))
    (q_BOAT : PySem.W.nsIn K mainGlobals "BOAT" = some (some (.int 4 t5)))
    (q_PLACES : PySem.W.nsIn K mainGlobals "PLACES" = some (some (.int 5 t6)))
    (q_SAIL : PySem.W.nsIn K mainGlobals "SAIL" = some (some (.int 6 t7)))
    (q_CHANGE : PySem.W.nsIn K mainGlobals "CHANGE" = some (some (.int 7 t8)))
    (q_SOONEST : PySem.W.nsIn K mainGlobals "SOONEST" = some (some (.int 8 t9)))
    (q_CHECK : PySem.W.nsIn K mainGlobals "CHECK" = some (some (.int 9 t10)))
    (q_NUMBERS : PySem.W.nsIn K mainGlobals "NUMBERS" = some (some (.ref a_NUMBERS)))
    (v_NUMBERS : K.lookup a_NUMBERS = some ⟨.type "tuple", od_NUMBERS, .seq #[.int 2 t11, .int 1 t12, .int 0 t13, .int 0 t14, .int 5 t15, .int 2 t16, .int 3 t17, .int 1 t18, .int 0 t19, .int 0 t20] nn_NUMBERS, sl_NUMBERS⟩)
    (q_OUT_OF_BOUNDS : PySem.W.nsIn K mainGlobals "OUT_OF_BOUNDS" = some (some (.int (-1) t21)))
    (q_NO_SUCH_CELL : PySem.W.nsIn K mainGlobals "NO_SUCH_CELL" = some (some (.int (-2) t22)))
    (q_CELL_TAKEN : PySem.W.nsIn K mainGlobals "CELL_TAKEN" = some (some (.int (-3) t23)))
    (q_SHOAL_ALREADY : PySem.W.nsIn K mainGlobals "SHOAL_ALREADY" = some (some (.int (-4) t24)))
    (q_SAILS_FULL : PySem.W.nsIn K mainGlobals "SAILS_FULL" = some (some (.int (-5) t25)))
    (q_CANNOT_BE_DONE : PySem.W.nsIn K mainGlobals "CANNOT_BE_DONE" = some (some (.int (-6) t26)))
    (q_LEAST_CELLS : PySem.W.nsIn K mainGlobals "LEAST_CELLS" = some (some (.int 2 t27)))
    (q_MOST_CELLS : PySem.W.nsIn K mainGlobals "MOST_CELLS" = some (some (.int 4 t28)))
    (q_LONGEST_ROW : PySem.W.nsIn K mainGlobals "LONGEST_ROW" = some (some (.int 12 t29)))
    (q_EIGHTHS : PySem.W.nsIn K mainGlobals "EIGHTHS" = some (some (.int 8 t30)))
    (q_GREATEST_STRENGTH : PySem.W.nsIn K mainGlobals "GREATEST_STRENGTH" = some (some (.int 40 t31)))
    (q_MOST_MINUTES : PySem.W.nsIn K mainGlobals "MOST_MINUTES" = some (some (.int 9 t32)))
    (q_MOST_SAILS : PySem.W.nsIn K mainGlobals "MOST_SAILS" = some (some (.int 3 t33)))
    (q_LAST_MINUTE : PySem.W.nsIn K mainGlobals "LAST_MINUTE" = some (some (.int 40 t34)))
    (q_MOST_STEPS : PySem.W.nsIn K mainGlobals "MOST_STEPS" = some (some (.int 40 t35)))
    (q_RIGHTWARD : PySem.W.nsIn K mainGlobals "RIGHTWARD" = some (some (.ref a_RIGHTWARD)))
    (v_RIGHTWARD : K.lookup a_RIGHTWARD = some ⟨.type "tuple", od_RIGHTWARD, .seq #[.int 0 t36, .int 1 t37, .int 1 t38, .int 1 t39, .int 0 t40, .int (-1) t41, .int (-1) t42, .int (-1) t43] nn_RIGHTWARD, sl_RIGHTWARD⟩)
    (q_DOWNWARD : PySem.W.nsIn K mainGlobals "DOWNWARD" = some (some (.ref a_DOWNWARD)))
    (v_DOWNWARD : K.lookup a_DOWNWARD = some ⟨.type "tuple", od_DOWNWARD, .seq #[.int (-1) t44, .int (-1) t45, .int 0 t46, .int 1 t47, .int 1 t48, .int 1 t49, .int 0 t50, .int (-1) t51] nn_DOWNWARD, sl_DOWNWARD⟩)
    (q_NO_SIDE : PySem.W.nsIn K mainGlobals "NO_SIDE" = some (some (.int 0 t52)))
    (q_SIDE_ON : PySem.W.nsIn K mainGlobals "SIDE_ON" = some (some (.int 1 t53)))
    (q_SIDE_BACK : PySem.W.nsIn K mainGlobals "SIDE_BACK" = some (some (.int 2 t54)))
    (q_LEAST : PySem.W.nsIn K mainGlobals "LEAST" = some (some (.int 0 t55)))
    (q_GREATEST : PySem.W.nsIn K mainGlobals "GREATEST" = some (some (.int 1 t56)))
    (q_SLOW : PySem.W.nsIn K mainGlobals "SLOW" = some (some (.int 2 t57)))
    (q_MINUTE : PySem.W.nsIn K mainGlobals "MINUTE" = some (some (.int 0 t58)))
    (q_CELL : PySem.W.nsIn K mainGlobals "CELL" = some (some (.int 1 t59)))
    (q_SIDE : PySem.W.nsIn K mainGlobals "SIDE" = some (some (.int 2 t60)))
    (q_SAIL_SET : PySem.W.nsIn K mainGlobals "SAIL_SET" = some (some (.int 3 t61)))
    (z_len : PySem.W.nsIn K mainGlobals "len" = some none)
    (z_list : PySem.W.nsIn K mainGlobals "list" = some none)
    (z_max : PySem.W.nsIn K mainGlobals "max" = some none)
    (z_min : PySem.W.nsIn K mainGlobals "min" = some none)
    (z_range : PySem.W.nsIn K mainGlobals "range" = some none)
    : ∃ fd : FuncData, (∀ (s : Shared) (us : List Value), us.length = (["calls"] : List Str).length → BindsTo s fd ⟨us, []⟩ ((["calls"] : List Str).zip us)) ∧ ∀ base : Heap, K.In base → base.Ns mainGlobals mg → FnOk P w K mg base CX0 12 fa fd ["calls"] (spAnswers K) := by
  have e := hfa.symm.trans (PySem.W.mg_of X G a_answers)
  cases e
  have F_is_extent := fun_mk (st := s_is_extent) l_is_extent c_is_extent k_is_extent
  have b_is_extent := F_is_extent.binds (ps := ["cells"]) fun _ _ _ _ _ _ us hl => by obtain ⟨_, rfl⟩ := len_1 hl; rfl
  have F_is_row := fun_mk (st := s_is_row) l_is_row c_is_row k_is_row
  have b_is_row := F_is_row.binds (ps := ["row", "greatest"]) fun _ _ _ _ _ _ us hl => by obtain ⟨_, _, rfl⟩ := len_2 hl; rfl
  have F_told_at := fun_mk (st := s_told_at) l_told_at c_told_at k_told_at
  have b_told_at := F_told_at.binds (ps := ["row", "minute"]) fun _ _ _ _ _ _ us hl => by obtain ⟨_, _, rfl⟩ := len_2 hl; rfl
  have F_point_of := fun_mk (st := s_point_of) l_point_of c_point_of k_point_of
  have b_point_of := F_point_of.binds (ps := ["eighths"]) fun _ _ _ _ _ _ us hl => by obtain ⟨_, rfl⟩ := len_1 hl; rfl
  have F_side_of := fun_mk (st := s_side_of) l_side_of c_side_of k_side_of
  have b_side_of := F_side_of.binds (ps := ["eighths"]) fun _ _ _ _ _ _ us hl => by obtain ⟨_, rfl⟩ := len_1 hl; rfl
  have F_stands := fun_mk (st := s_stands) l_stands c_stands k_stands
  have b_stands := F_stands.binds (ps := ["sail", "strength"]) fun _ _ _ _ _ _ us hl => by obtain ⟨_, _, rfl⟩ := len_2 hl; rfl
  have F_keep_earlier := fun_mk (st := s_keep_earlier) l_keep_earlier c_keep_earlier k_keep_earlier
  have b_keep_earlier := F_keep_earlier.binds (ps := ["ways", "stand", "way"]) fun _ _ _ _ _ _ us hl => by obtain ⟨_, _, _, rfl⟩ := len_3 hl; rfl
  have F_Step_init := fun_mk (st := s_Step_init) l_Step_init c_Step_init k_Step_init
  have b_Step_init := F_Step_init.binds (ps := ["self", "heading", "with_sail", "side", "minutes"]) fun _ _ _ _ _ _ us hl => by obtain ⟨_, _, _, _, _, rfl⟩ := len_5 hl; rfl
  have F_Step_turns := fun_mk (st := s_Step_turns) l_Step_turns c_Step_turns k_Step_turns
  have b_Step_turns := F_Step_turns.binds (ps := ["self", "side"]) fun _ _ _ _ _ _ us hl => by obtain ⟨_, _, rfl⟩ := len_2 hl; rfl
  have F_Step_side_behind := fun_mk (st := s_Step_side_behind) l_Step_side_behind c_Step_side_behind k_Step_side_behind
  have b_Step_side_behind := F_Step_side_behind.binds (ps := ["self", "side"]) fun _ _ _ _ _ _ us hl => by obtain ⟨_, _, rfl⟩ := len_2 hl; rfl
  have F_Passage_init := fun_mk (st := s_Passage_init) l_Passage_init c_Passage_init k_Passage_init
  have b_Passage_init := F_Passage_init.binds (ps := ["self"]) fun _ _ _ _ _ _ us hl => by obtain ⟨_, rfl⟩ := len_1 hl; rfl
  have F_Passage_lay := fun_mk (st := s_Passage_lay) l_Passage_lay c_Passage_lay k_Passage_lay
  have b_Passage_lay := F_Passage_lay.binds (ps := ["self", "wide", "high"]) fun _ _ _ _ _ _ us hl => by obtain ⟨_, _, _, rfl⟩ := len_3 hl; rfl
  have F_Passage_begins := fun_mk (st := s_Passage_begins) l_Passage_begins c_Passage_begins k_Passage_begins
  have b_Passage_begins := F_Passage_begins.binds (ps := ["self", "wide", "high"]) fun _ _ _ _ _ _ us hl => by obtain ⟨_, _, _, rfl⟩ := len_3 hl; rfl
  have F_Passage_shoal := fun_mk (st := s_Passage_shoal) l_Passage_shoal c_Passage_shoal k_Passage_shoal
  have b_Passage_shoal := F_Passage_shoal.binds (ps := ["self", "cell"]) fun _ _ _ _ _ _ us hl => by obtain ⟨_, _, rfl⟩ := len_2 hl; rfl
  have F_Passage_winds := fun_mk (st := s_Passage_winds) l_Passage_winds c_Passage_winds k_Passage_winds
  have b_Passage_winds := F_Passage_winds.binds (ps := ["self", "row"]) fun _ _ _ _ _ _ us hl => by obtain ⟨_, _, rfl⟩ := len_2 hl; rfl
  have F_Passage_strong := fun_mk (st := s_Passage_strong) l_Passage_strong c_Passage_strong k_Passage_strong
  have b_Passage_strong := F_Passage_strong.binds (ps := ["self", "row"]) fun _ _ _ _ _ _ us hl => by obtain ⟨_, _, rfl⟩ := len_2 hl; rfl
  have F_Passage_boat := fun_mk (st := s_Passage_boat) l_Passage_boat c_Passage_boat k_Passage_boat
  have b_Passage_boat := F_Passage_boat.binds (ps := ["self", "steps", "turn"]) fun _ _ _ _ _ _ us hl => by obtain ⟨_, _, _, rfl⟩ := len_3 hl; rfl
  have F_Passage_places := fun_mk (st := s_Passage_places) l_Passage_places c_Passage_places k_Passage_places
  have b_Passage_places := F_Passage_places.binds (ps := ["self", "boat", "mark"]) fun _ _ _ _ _ _ us hl => by obtain ⟨_, _, _, rfl⟩ := len_3 hl; rfl
  have F_Passage_sail := fun_mk (st := s_Passage_sail) l_Passage_sail c_Passage_sail k_Passage_sail
  have b_Passage_sail := F_Passage_sail.binds (ps := ["self", "least", "greatest", "slow"]) fun _ _ _ _ _ _ us hl => by obtain ⟨_, _, _, _, rfl⟩ := len_4 hl; rfl
  have F_Passage_change := fun_mk (st := s_Passage_change) l_Passage_change c_Passage_change k_Passage_change
  have b_Passage_change := F_Passage_change.binds (ps := ["self", "minutes"]) fun _ _ _ _ _ _ us hl => by obtain ⟨_, _, rfl⟩ := len_2 hl; rfl
  have F_Passage_soonest := fun_mk (st := s_Passage_soonest) l_Passage_soonest c_Passage_soonest k_Passage_soonest
  have b_Passage_soonest := F_Passage_soonest.binds (ps := ["self"]) fun _ _ _ _ _ _ us hl => by obtain ⟨_, rfl⟩ := len_1 hl; rfl
  have F_Passage_check := fun_mk (st := s_Passage_check) l_Passage_check c_Passage_check k_Passage_check
  have b_Passage_check := F_Passage_check.binds (ps := ["self", "way"]) fun _ _ _ _ _ _ us hl => by obtain ⟨_, _, rfl⟩ := len_2 hl; rfl
  have F_Passage_has_cell := fun_mk (st := s_Passage_has_cell) l_Passage_has_cell c_Passage_has_cell k_Passage_has_cell
  have b_Passage_has_cell := F_Passage_has_cell.binds (ps := ["self", "cell"]) fun _ _ _ _ _ _ us hl => by obtain ⟨_, _, rfl⟩ := len_2 hl; rfl
  have F_Passage_is_way := fun_mk (st := s_Passage_is_way) l_Passage_is_way c_Passage_is_way k_Passage_is_way
  have b_Passage_is_way := F_Passage_is_way.binds (ps := ["self", "way"]) fun _ _ _ _ _ _ us hl => by obtain ⟨_, _, rfl⟩ := len_2 hl; rfl
  have F_Passage_first_stand := fun_mk (st := s_Passage_first_stand) l_Passage_first_stand c_Passage_first_stand k_Passage_first_stand
  have b_Passage_first_stand := F_Passage_first_stand.binds (ps := ["self"]) fun _ _ _ _ _ _ us hl => by obtain ⟨_, rfl⟩ := len_1 hl; rfl
  have F_Passage_has_room := fun_mk (st := s_Passage_has_room) l_Passage_has_room c_Passage_has_room k_Passage_has_room
  have b_Passage_has_room := F_Passage_has_room.binds (ps := ["self", "cell", "heading"]) fun _ _ _ _ _ _ us hl => by obtain ⟨_, _, _, rfl⟩ := len_3 hl; rfl
  have F_Passage_cell_behind := fun_mk (st := s_Passage_cell_behind) l_Passage_cell_behind c_Passage_cell_behind k_Passage_cell_behind
  have b_Passage_cell_behind := F_Passage_cell_behind.binds (ps := ["self", "cell", "heading"]) fun _ _ _ _ _ _ us hl => by obtain ⟨_, _, _, rfl⟩ := len_3 hl; rfl
  have F_Passage_step_at := fun_mk (st := s_Passage_step_at) l_Passage_step_at c_Passage_step_at k_Passage_step_at
  have b_Passage_step_at := F_Passage_step_at.binds (ps := ["self", "minute", "heading", "number"]) fun _ _ _ _ _ _ us hl => by obtain ⟨_, _, _, _, rfl⟩ := len_4 hl; rfl
  have F_Passage_steps_at := fun_mk (st := s_Passage_steps_at) l_Passage_steps_at c_Passage_steps_at k_Passage_steps_at
  have b_Passage_steps_at := F_Passage_steps_at.binds (ps := ["self", "minute"]) fun _ _ _ _ _ _ us hl => by obtain ⟨_, _, rfl⟩ := len_2 hl; rfl
  have F_Passage_stand_behind := fun_mk (st := s_Passage_stand_behind) l_Passage_stand_behind c_Passage_stand_behind k_Passage_stand_behind
  have b_Passage_stand_behind := F_Passage_stand_behind.binds (ps := ["self", "stand", "step"]) fun _ _ _ _ _ _ us hl => by obtain ⟨_, _, _, rfl⟩ := len_3 hl; rfl
  have F_Passage_lengthen := fun_mk (st := s_Passage_lengthen) l_Passage_lengthen c_Passage_lengthen k_Passage_lengthen
  have b_Passage_lengthen := F_Passage_lengthen.binds (ps := ["self", "ways", "minute"]) fun _ _ _ _ _ _ us hl => by obtain ⟨_, _, _, rfl⟩ := len_3 hl; rfl
  have F_has_row := fun_mk (st := s_has_row) l_has_row c_has_row k_has_row
  have b_has_row := F_has_row.binds (ps := ["call"]) fun _ _ _ _ _ _ us hl => by obtain ⟨_, rfl⟩ := len_1 hl; rfl
  have F_numbers_start := fun_mk (st := s_numbers_start) l_numbers_start c_numbers_start k_numbers_start
  have b_numbers_start := F_numbers_start.binds (ps := ["calls", "place"]) fun _ _ _ _ _ _ us hl => by obtain ⟨_, _, rfl⟩ := len_2 hl; rfl
  have F_numbers_end := fun_mk (st := s_numbers_end) l_numbers_end c_numbers_end k_numbers_end
  have b_numbers_end := F_numbers_end.binds (ps := ["calls", "place"]) fun _ _ _ _ _ _ us hl => by obtain ⟨_, _, rfl⟩ := len_2 hl; rfl
  have F_answer_to := fun_mk (st := s_answer_to) l_answer_to c_answer_to k_answer_to
  have b_answer_to := F_answer_to.binds (ps := ["passage", "call", "numbers"]) fun _ _ _ _ _ _ us hl => by obtain ⟨_, _, _, rfl⟩ := len_3 hl; rfl
  have F_answers_about := fun_mk (st := s_answers_about) l_answers_about c_answers_about k_answers_about
  have b_answers_about := F_answers_about.binds (ps := ["passage", "calls"]) fun _ _ _ _ _ _ us hl => by obtain ⟨_, _, rfl⟩ := len_2 hl; rfl
  have F_answers := fun_mk (st := s_answers) l_answers c_answers k_answers
  have b_answers := F_answers.binds (ps := ["calls"]) fun _ _ _ _ _ _ us hl => by obtain ⟨_, rfl⟩ := len_1 hl; rfl
  have T : Txt K mg ⟨C_Step, C_Passage, f_is_extent, (PySem.W.fnOf "is_extent" "is_extent" (defArgs s_is_extent) (defBody s_is_extent) (defScope s_is_extent) .none kV_is_extent dc_is_extent pm_is_extent an_is_extent cd_is_extent ct_is_extent), f_is_row, (PySem.W.fnOf "is_row" "is_row" (defArgs s_is_row) (defBody s_is_row) (defScope s_is_row) .none kV_is_row dc_is_row pm_is_row an_is_row cd_is_row ct_is_row), f_told_at, (PySem.W.fnOf "told_at" "told_at" (defArgs s_told_at) (defBody s_told_at) (defScope s_told_at) .none kV_told_at dc_told_at pm_told_at an_told_at cd_told_at ct_told_at), f_point_of, (PySem.W.fnOf "point_of" "point_of" (defArgs s_point_of) (defBody s_point_of) (defScope s_point_of) .none kV_point_of dc_point_of pm_point_of an_point_of cd_point_of ct_point_of), f_side_of, (PySem.W.fnOf "side_of" "side_of" (defArgs s_side_of) (defBody s_side_of) (defScope s_side_of) .none kV_side_of dc_side_of pm_side_of an_side_of cd_side_of ct_side_of), f_stands, (PySem.W.fnOf "stands" "stands" (defArgs s_stands) (defBody s_stands) (defScope s_stands) .none kV_stands dc_stands pm_stands an_stands cd_stands ct_stands), f_keep_earlier, (PySem.W.fnOf "keep_earlier" "keep_earlier" (defArgs s_keep_earlier) (defBody s_keep_earlier) (defScope s_keep_earlier) .none kV_keep_earlier dc_keep_earlier pm_keep_earlier an_keep_earlier cd_keep_earlier ct_keep_earlier), f_Step_init, (PySem.W.fnOf "__init__" "Step.__init__" (defArgs s_Step_init) (defBody s_Step_init) (defScope s_Step_init) .none kV_Step_init dc_Step_init pm_Step_init an_Step_init cd_Step_init ct_Step_init), f_Step_turns, (PySem.W.fnOf "turns" "Step.turns" (defArgs s_Step_turns) (defBody s_Step_turns) (defScope s_Step_turns) .none kV_Step_turns dc_Step_turns pm_Step_turns an_Step_turns cd_Step_turns ct_Step_turns), f_Step_side_behind, (PySem.W.fnOf "side_behind" "Step.side_behind" (defArgs s_Step_side_behind) (defBody s_Step_side_behind) (defScope s_Step_side_behind) .none kV_Step_side_behind dc_Step_side_behind pm_Step_side_behind an_Step_side_behind cd_Step_side_behind ct_Step_side_behind), f_Passage_init, (PySem.W.fnOf "__init__" "Passage.__init__" (defArgs s_Passage_init) (defBody s_Passage_init) (defScope s_Passage_init) .none kV_Passage_init dc_Passage_init pm_Passage_init an_Passage_init cd_Passage_init ct_Passage_init), f_Passage_lay, (PySem.W.fnOf "lay" "Passage.lay" (defArgs s_Passage_lay) (defBody s_Passage_lay) (defScope s_Passage_lay) .none kV_Passage_lay dc_Passage_lay pm_Passage_lay an_Passage_lay cd_Passage_lay ct_Passage_lay), f_Passage_begins, (PySem.W.fnOf "begins" "Passage.begins" (defArgs s_Passage_begins) (defBody s_Passage_begins) (defScope s_Passage_begins) .none kV_Passage_begins dc_Passage_begins pm_Passage_begins an_Passage_begins cd_Passage_begins ct_Passage_begins), f_Passage_shoal, (PySem.W.fnOf "shoal" "Passage.shoal" (defArgs s_Passage_shoal) (defBody s_Passage_shoal) (defScope s_Passage_shoal) .none kV_Passage_shoal dc_Passage_shoal pm_Passage_shoal an_Passage_shoal cd_Passage_shoal ct_Passage_shoal), f_Passage_winds, (PySem.W.fnOf "winds" "Passage.winds" (defArgs s_Passage_winds) (defBody s_Passage_winds) (defScope s_Passage_winds) .none kV_Passage_winds dc_Passage_winds pm_Passage_winds an_Passage_winds cd_Passage_winds ct_Passage_winds), f_Passage_strong, (PySem.W.fnOf "strong" "Passage.strong" (defArgs s_Passage_strong) (defBody s_Passage_strong) (defScope s_Passage_strong) .none kV_Passage_strong dc_Passage_strong pm_Passage_strong an_Passage_strong cd_Passage_strong ct_Passage_strong), f_Passage_boat, (PySem.W.fnOf "boat" "Passage.boat" (defArgs s_Passage_boat) (defBody s_Passage_boat) (defScope s_Passage_boat) .none kV_Passage_boat dc_Passage_boat pm_Passage_boat an_Passage_boat cd_Passage_boat ct_Passage_boat), f_Passage_places, (PySem.W.fnOf "places" "Passage.places" (defArgs s_Passage_places) (defBody s_Passage_places) (defScope s_Passage_places) .none kV_Passage_places dc_Passage_places pm_Passage_places an_Passage_places cd_Passage_places ct_Passage_places), f_Passage_sail, (PySem.W.fnOf "sail" "Passage.sail" (defArgs s_Passage_sail) (defBody s_Passage_sail) (defScope s_Passage_sail) .none kV_Passage_sail dc_Passage_sail pm_Passage_sail an_Passage_sail cd_Passage_sail ct_Passage_sail), f_Passage_change, (PySem.W.fnOf "change" "Passage.change" (defArgs s_Passage_change) (defBody s_Passage_change) (defScope s_Passage_change) .none kV_Passage_change dc_Passage_change pm_Passage_change an_Passage_change cd_Passage_change ct_Passage_change), f_Passage_soonest, (PySem.W.fnOf "soonest" "Passage.soonest" (defArgs s_Passage_soonest) (defBody s_Passage_soonest) (defScope s_Passage_soonest) .none kV_Passage_soonest dc_Passage_soonest pm_Passage_soonest an_Passage_soonest cd_Passage_soonest ct_Passage_soonest), f_Passage_check, (PySem.W.fnOf "check" "Passage.check" (defArgs s_Passage_check) (defBody s_Passage_check) (defScope s_Passage_check) .none kV_Passage_check dc_Passage_check pm_Passage_check an_Passage_check cd_Passage_check ct_Passage_check), f_Passage_has_cell, (PySem.W.fnOf "has_cell" "Passage.has_cell" (defArgs s_Passage_has_cell) (defBody s_Passage_has_cell) (defScope s_Passage_has_cell) .none kV_Passage_has_cell dc_Passage_has_cell pm_Passage_has_cell an_Passage_has_cell cd_Passage_has_cell ct_Passage_has_cell), f_Passage_is_way, (PySem.W.fnOf "is_way" "Passage.is_way" (defArgs s_Passage_is_way) (defBody s_Passage_is_way) (defScope s_Passage_is_way) .none kV_Passage_is_way dc_Passage_is_way pm_Passage_is_way an_Passage_is_way cd_Passage_is_way ct_Passage_is_way), f_Passage_first_stand, (PySem.W.fnOf "first_stand" "Passage.first_stand" (defArgs s_Passage_first_stand) (defBody s_Passage_first_stand) (defScope s_Passage_first_stand) .none kV_Passage_first_stand dc_Passage_first_stand pm_Passage_first_stand an_Passage_first_stand cd_Passage_first_stand ct_Passage_first_stand), f_Passage_has_room, (PySem.W.fnOf "has_room" "Passage.has_room" (defArgs s_Passage_has_room) (defBody s_Passage_has_room) (defScope s_Passage_has_room) .none kV_Passage_has_room dc_Passage_has_room pm_Passage_has_room an_Passage_has_room cd_Passage_has_room ct_Passage_has_room), f_Passage_cell_behind, (PySem.W.fnOf "cell_behind" "Passage.cell_behind" (defArgs s_Passage_cell_behind) (defBody s_Passage_cell_behind) (defScope s_Passage_cell_behind) .none kV_Passage_cell_behind dc_Passage_cell_behind pm_Passage_cell_behind an_Passage_cell_behind cd_Passage_cell_behind ct_Passage_cell_behind), f_Passage_step_at, (PySem.W.fnOf "step_at" "Passage.step_at" (defArgs s_Passage_step_at) (defBody s_Passage_step_at) (defScope s_Passage_step_at) .none kV_Passage_step_at dc_Passage_step_at pm_Passage_step_at an_Passage_step_at cd_Passage_step_at ct_Passage_step_at), f_Passage_steps_at, (PySem.W.fnOf "steps_at" "Passage.steps_at" (defArgs s_Passage_steps_at) (defBody s_Passage_steps_at) (defScope s_Passage_steps_at) .none kV_Passage_steps_at dc_Passage_steps_at pm_Passage_steps_at an_Passage_steps_at cd_Passage_steps_at ct_Passage_steps_at), f_Passage_stand_behind, (PySem.W.fnOf "stand_behind" "Passage.stand_behind" (defArgs s_Passage_stand_behind) (defBody s_Passage_stand_behind) (defScope s_Passage_stand_behind) .none kV_Passage_stand_behind dc_Passage_stand_behind pm_Passage_stand_behind an_Passage_stand_behind cd_Passage_stand_behind ct_Passage_stand_behind), f_Passage_lengthen, (PySem.W.fnOf "lengthen" "Passage.lengthen" (defArgs s_Passage_lengthen) (defBody s_Passage_lengthen) (defScope s_Passage_lengthen) .none kV_Passage_lengthen dc_Passage_lengthen pm_Passage_lengthen an_Passage_lengthen cd_Passage_lengthen ct_Passage_lengthen), f_has_row, (PySem.W.fnOf "has_row" "has_row" (defArgs s_has_row) (defBody s_has_row) (defScope s_has_row) .none kV_has_row dc_has_row pm_has_row an_has_row cd_has_row ct_has_row), f_numbers_start, (PySem.W.fnOf "numbers_start" "numbers_start" (defArgs s_numbers_start) (defBody s_numbers_start) (defScope s_numbers_start) .none kV_numbers_start dc_numbers_start pm_numbers_start an_numbers_start cd_numbers_start ct_numbers_start), f_numbers_end, (PySem.W.fnOf "numbers_end" "numbers_end" (defArgs s_numbers_end) (defBody s_numbers_end) (defScope s_numbers_end) .none kV_numbers_end dc_numbers_end pm_numbers_end an_numbers_end cd_numbers_end ct_numbers_end), f_answer_to, (PySem.W.fnOf "answer_to" "answer_to" (defArgs s_answer_to) (defBody s_answer_to) (defScope s_answer_to) .none kV_answer_to dc_answer_to pm_answer_to an_answer_to cd_answer_to ct_answer_to), f_answers_about, (PySem.W.fnOf "answers_about" "answers_about" (defArgs s_answers_about) (defBody s_answers_about) (defScope s_answers_about) .none kV_answers_about dc_answers_about pm_answers_about an_answers_about cd_answers_about ct_answers_about), fa, (PySem.W.fnOf "answers" "answers" (defArgs s_answers) (defBody s_answers) (defScope s_answers) .none kV_answers dc_answers pm_answers an_answers cd_answers ct_answers), a_NUMBERS, a_RIGHTWARD, a_DOWNWARD⟩ := {
    cl_Step := ⟨pg_Step, hd_Step, po_Step, sa_Step⟩
    mk_Step := ⟨mk_Step, a_Step_init, i_Step_init, kc_Step⟩
    g_Step := PySem.W.mg_of X G a_Step
    cl_Passage := ⟨pg_Passage, hd_Passage, po_Passage, sa_Passage⟩
    mk_Passage := ⟨mk_Passage, a_Passage_init, i_Passage_init, kc_Passage⟩
    g_Passage := PySem.W.mg_of X G a_Passage
    n_Step_heading := nf_Step_heading
    n_Step_with_sail := nf_Step_with_sail
    n_Step_side := nf_Step_side
    n_Step_minutes := nf_Step_minutes
    n_Passage_wide := nf_Passage_wide
    n_Passage_high := nf_Passage_high
    n_Passage_shoals := nf_Passage_shoals
    n_Passage_wind_row := nf_Passage_wind_row
    n_Passage_strength_row := nf_Passage_strength_row
    n_Passage_step_minutes := nf_Passage_step_minutes
    n_Passage_turn_minutes := nf_Passage_turn_minutes
    n_Passage_change_minutes := nf_Passage_change_minutes
    n_Passage_sails := nf_Passage_sails
    n_Passage_boat_cell := nf_Passage_boat_cell
    n_Passage_mark_cell := nf_Passage_mark_cell
    F_is_extent := F_is_extent
    b_is_extent := b_is_extent
    g_is_extent := PySem.W.mg_of X G a_is_extent
    F_is_row := F_is_row
    b_is_row := b_is_row
    g_is_row := PySem.W.mg_of X G a_is_row
    F_told_at := F_told_at
    b_told_at := b_told_at
    g_told_at := PySem.W.mg_of X G a_told_at
    F_point_of := F_point_of
    b_point_of := b_point_of
    g_point_of := PySem.W.mg_of X G a_point_of
    F_side_of := F_side_of
    b_side_of := b_side_of
    g_side_of := PySem.W.mg_of X G a_side_of
    F_stands := F_stands
    b_stands := b_stands
    g_stands := PySem.W.mg_of X G a_stands
    F_keep_earlier := F_keep_earlier
    b_keep_earlier := b_keep_earlier
    g_keep_earlier := PySem.W.mg_of X G a_keep_earlier
    F_Step_init := F_Step_init
    b_Step_init := b_Step_init
    m_Step_init := ⟨a_Step_init, i_Step_init, k_Step_init⟩
    F_Step_turns := F_Step_turns
    b_Step_turns := b_Step_turns
    m_Step_turns := ⟨a_Step_turns, i_Step_turns, k_Step_turns⟩
    F_Step_side_behind := F_Step_side_behind
    b_Step_side_behind := b_Step_side_behind
    m_Step_side_behind := ⟨a_Step_side_behind, i_Step_side_behind, k_Step_side_behind⟩
    F_Passage_init := F_Passage_init
    b_Passage_init := b_Passage_init
    m_Passage_init := ⟨a_Passage_init, i_Passage_init, k_Passage_init⟩
    F_Passage_lay := F_Passage_lay
    b_Passage_lay := b_Passage_lay
    m_Passage_lay := ⟨a_Passage_lay, i_Passage_lay, k_Passage_lay⟩
    F_Passage_begins := F_Passage_begins
    b_Passage_begins := b_Passage_begins
    m_Passage_begins := ⟨a_Passage_begins, i_Passage_begins, k_Passage_begins⟩
    F_Passage_shoal := F_Passage_shoal
    b_Passage_shoal := b_Passage_shoal
    m_Passage_shoal := ⟨a_Passage_shoal, i_Passage_shoal, k_Passage_shoal⟩
    F_Passage_winds := F_Passage_winds
    b_Passage_winds := b_Passage_winds
    m_Passage_winds := ⟨a_Passage_winds, i_Passage_winds, k_Passage_winds⟩
    F_Passage_strong := F_Passage_strong
    b_Passage_strong := b_Passage_strong
    m_Passage_strong := ⟨a_Passage_strong, i_Passage_strong, k_Passage_strong⟩
    F_Passage_boat := F_Passage_boat
    b_Passage_boat := b_Passage_boat
    m_Passage_boat := ⟨a_Passage_boat, i_Passage_boat, k_Passage_boat⟩
    F_Passage_places := F_Passage_places
    b_Passage_places := b_Passage_places
    m_Passage_places := ⟨a_Passage_places, i_Passage_places, k_Passage_places⟩
    F_Passage_sail := F_Passage_sail
    b_Passage_sail := b_Passage_sail
    m_Passage_sail := ⟨a_Passage_sail, i_Passage_sail, k_Passage_sail⟩
    F_Passage_change := F_Passage_change
    b_Passage_change := b_Passage_change
    m_Passage_change := ⟨a_Passage_change, i_Passage_change, k_Passage_change⟩
    F_Passage_soonest := F_Passage_soonest
    b_Passage_soonest := b_Passage_soonest
    m_Passage_soonest := ⟨a_Passage_soonest, i_Passage_soonest, k_Passage_soonest⟩
    F_Passage_check := F_Passage_check
    b_Passage_check := b_Passage_check
    m_Passage_check := ⟨a_Passage_check, i_Passage_check, k_Passage_check⟩
    F_Passage_has_cell := F_Passage_has_cell
    b_Passage_has_cell := b_Passage_has_cell
    m_Passage_has_cell := ⟨a_Passage_has_cell, i_Passage_has_cell, k_Passage_has_cell⟩
    F_Passage_is_way := F_Passage_is_way
    b_Passage_is_way := b_Passage_is_way
    m_Passage_is_way := ⟨a_Passage_is_way, i_Passage_is_way, k_Passage_is_way⟩
    F_Passage_first_stand := F_Passage_first_stand
    b_Passage_first_stand := b_Passage_first_stand
    m_Passage_first_stand := ⟨a_Passage_first_stand, i_Passage_first_stand, k_Passage_first_stand⟩
    F_Passage_has_room := F_Passage_has_room
    b_Passage_has_room := b_Passage_has_room
    m_Passage_has_room := ⟨a_Passage_has_room, i_Passage_has_room, k_Passage_has_room⟩
    F_Passage_cell_behind := F_Passage_cell_behind
    b_Passage_cell_behind := b_Passage_cell_behind
    m_Passage_cell_behind := ⟨a_Passage_cell_behind, i_Passage_cell_behind, k_Passage_cell_behind⟩
    F_Passage_step_at := F_Passage_step_at
    b_Passage_step_at := b_Passage_step_at
    m_Passage_step_at := ⟨a_Passage_step_at, i_Passage_step_at, k_Passage_step_at⟩
    F_Passage_steps_at := F_Passage_steps_at
    b_Passage_steps_at := b_Passage_steps_at
    m_Passage_steps_at := ⟨a_Passage_steps_at, i_Passage_steps_at, k_Passage_steps_at⟩
    F_Passage_stand_behind := F_Passage_stand_behind
    b_Passage_stand_behind := b_Passage_stand_behind
    m_Passage_stand_behind := ⟨a_Passage_stand_behind, i_Passage_stand_behind, k_Passage_stand_behind⟩
    F_Passage_lengthen := F_Passage_lengthen
    b_Passage_lengthen := b_Passage_lengthen
    m_Passage_lengthen := ⟨a_Passage_lengthen, i_Passage_lengthen, k_Passage_lengthen⟩
    F_has_row := F_has_row
    b_has_row := b_has_row
    g_has_row := PySem.W.mg_of X G a_has_row
    F_numbers_start := F_numbers_start
    b_numbers_start := b_numbers_start
    g_numbers_start := PySem.W.mg_of X G a_numbers_start
    F_numbers_end := F_numbers_end
    b_numbers_end := b_numbers_end
    g_numbers_end := PySem.W.mg_of X G a_numbers_end
    F_answer_to := F_answer_to
    b_answer_to := b_answer_to
    g_answer_to := PySem.W.mg_of X G a_answer_to
    F_answers_about := F_answers_about
    b_answers_about := b_answers_about
    g_answers_about := PySem.W.mg_of X G a_answers_about
    F_answers := F_answers
    b_answers := b_answers
    g_answers := PySem.W.mg_of X G a_answers
    c_BEGINS := ⟨_, PySem.W.mg_of X G q_BEGINS, _, rfl⟩
    c_SHOAL := ⟨_, PySem.W.mg_of X G q_SHOAL, _, rfl⟩
    c_WINDS := ⟨_, PySem.W.mg_of X G q_WINDS, _, rfl⟩
    c_STRONG := ⟨_, PySem.W.mg_of X G q_STRONG, _, rfl⟩
    c_BOAT := ⟨_, PySem.W.mg_of X G q_BOAT, _, rfl⟩
    c_PLACES := ⟨_, PySem.W.mg_of X G q_PLACES, _, rfl⟩
    c_SAIL := ⟨_, PySem.W.mg_of X G q_SAIL, _, rfl⟩
    c_CHANGE := ⟨_, PySem.W.mg_of X G q_CHANGE, _, rfl⟩
    c_SOONEST := ⟨_, PySem.W.mg_of X G q_SOONEST, _, rfl⟩
    c_CHECK := ⟨_, PySem.W.mg_of X G q_CHECK, _, rfl⟩
    c_NUMBERS := ⟨_, PySem.W.mg_of X G q_NUMBERS, rfl⟩
    t_NUMBERS := fun H => .inr ⟨_, _, _, v_NUMBERS, rfl, rfl, (by show 10 ≤ sizeLine; decide), (.cons ⟨_, rfl⟩ (.cons ⟨_, rfl⟩ (.cons ⟨_, rfl⟩ (.cons ⟨_, rfl⟩ (.cons ⟨_, rfl⟩ (.cons ⟨_, rfl⟩ (.cons ⟨_, rfl⟩ (.cons ⟨_, rfl⟩ (.cons ⟨_, rfl⟩ (.cons ⟨_, rfl⟩ .nil))))))))))⟩
    c_OUT_OF_BOUNDS := ⟨_, PySem.W.mg_of X G q_OUT_OF_BOUNDS, _, rfl⟩
    c_NO_SUCH_CELL := ⟨_, PySem.W.mg_of X G q_NO_SUCH_CELL, _, rfl⟩
    c_CELL_TAKEN := ⟨_, PySem.W.mg_of X G q_CELL_TAKEN, _, rfl⟩
    c_SHOAL_ALREADY := ⟨_, PySem.W.mg_of X G q_SHOAL_ALREADY, _, rfl⟩
    c_SAILS_FULL := ⟨_, PySem.W.mg_of X G q_SAILS_FULL, _, rfl⟩
    c_CANNOT_BE_DONE := ⟨_, PySem.W.mg_of X G q_CANNOT_BE_DONE, _, rfl⟩
    c_LEAST_CELLS := ⟨_, PySem.W.mg_of X G q_LEAST_CELLS, _, rfl⟩
    c_MOST_CELLS := ⟨_, PySem.W.mg_of X G q_MOST_CELLS, _, rfl⟩
    c_LONGEST_ROW := ⟨_, PySem.W.mg_of X G q_LONGEST_ROW, _, rfl⟩
    c_EIGHTHS := ⟨_, PySem.W.mg_of X G q_EIGHTHS, _, rfl⟩
    c_GREATEST_STRENGTH := ⟨_, PySem.W.mg_of X G q_GREATEST_STRENGTH, _, rfl⟩
    c_MOST_MINUTES := ⟨_, PySem.W.mg_of X G q_MOST_MINUTES, _, rfl⟩
    c_MOST_SAILS := ⟨_, PySem.W.mg_of X G q_MOST_SAILS, _, rfl⟩
    c_LAST_MINUTE := ⟨_, PySem.W.mg_of X G q_LAST_MINUTE, _, rfl⟩
    c_MOST_STEPS := ⟨_, PySem.W.mg_of X G q_MOST_STEPS, _, rfl⟩
    c_RIGHTWARD := ⟨_, PySem.W.mg_of X G q_RIGHTWARD, rfl⟩
    t_RIGHTWARD := fun H => .inr ⟨_, _, _, v_RIGHTWARD, rfl, rfl, (by show 8 ≤ sizeLine; decide), (.cons ⟨_, rfl⟩ (.cons ⟨_, rfl⟩ (.cons ⟨_, rfl⟩ (.cons ⟨_, rfl⟩ (.cons ⟨_, rfl⟩ (.cons ⟨_, rfl⟩ (.cons ⟨_, rfl⟩ (.cons ⟨_, rfl⟩ .nil))))))))⟩
    c_DOWNWARD := ⟨_, PySem.W.mg_of X G q_DOWNWARD, rfl⟩
    t_DOWNWARD := fun H => .inr ⟨_, _, _, v_DOWNWARD, rfl, rfl, (by show 8 ≤ sizeLine; decide), (.cons ⟨_, rfl⟩ (.cons ⟨_, rfl⟩ (.cons ⟨_, rfl⟩ (.cons ⟨_, rfl⟩ (.cons ⟨_, rfl⟩ (.cons ⟨_, rfl⟩ (.cons ⟨_, rfl⟩ (.cons ⟨_, rfl⟩ .nil))))))))⟩
    c_NO_SIDE := ⟨_, PySem.W.mg_of X G q_NO_SIDE, _, rfl⟩
    c_SIDE_ON := ⟨_, PySem.W.mg_of X G q_SIDE_ON, _, rfl⟩
    c_SIDE_BACK := ⟨_, PySem.W.mg_of X G q_SIDE_BACK, _, rfl⟩
    c_LEAST := ⟨_, PySem.W.mg_of X G q_LEAST, _, rfl⟩
    c_GREATEST := ⟨_, PySem.W.mg_of X G q_GREATEST, _, rfl⟩
    c_SLOW := ⟨_, PySem.W.mg_of X G q_SLOW, _, rfl⟩
    c_MINUTE := ⟨_, PySem.W.mg_of X G q_MINUTE, _, rfl⟩
    c_CELL := ⟨_, PySem.W.mg_of X G q_CELL, _, rfl⟩
    c_SIDE := ⟨_, PySem.W.mg_of X G q_SIDE, _, rfl⟩
    c_SAIL_SET := ⟨_, PySem.W.mg_of X G q_SAIL_SET, _, rfl⟩
    z_len := PySem.W.mg_none_of X G z_len
    z_list := PySem.W.mg_none_of X G z_list
    z_max := PySem.W.mg_none_of X G z_max
    z_min := PySem.W.mg_none_of X G z_min
    z_range := PySem.W.mg_none_of X G z_range
  }
  exact ⟨_, fun s us hu => (by obtain ⟨_, rfl⟩ := len_1 hu; exact .of_eq rfl), fun base _ _ => ok_answers T⟩


end Pa
open PySem PySem.W PyProof.Rows
set_option maxRecDepth 100000 in
set_option maxHeartbeats 0 in
theorem PySem.Challenge.cw_sailpassage_s01_answers_holds : PySem.Challenge.rw_sailpassage_s01_answers.Holds := by
  w_on; k_headS; (case hw => exact ⟨[.list [.int 7, .int 0]], by decide +kernel, by decide +kernel⟩)
  k_fillS
  refine L2.walk_specK (r := PySem.Challenge.rw_sailpassage_s01_answers) (k := 12) (CX := L2.CX0) (ps := ["calls"]) (sp := Pa.spAnswers) (by decide +kernel) rfl rfl ⟨rfl, by decide, by decide⟩ (fun w h Y => PySem.W.kIn_of Y) ?F ?S (fun _ _ _ _ z => z)
  case F =>
    intro w mg fa h Y KX G hmg
    refine' Pa.all_mk KX G hmg ?a_Step ?a_Passage ?a_is_extent ?l_is_extent ?c_is_extent ?k_is_extent ?a_is_row ?l_is_row ?c_is_row ?k_is_row ?a_told_at ?l_told_at ?c_told_at ?k_told_at ?a_point_of ?l_point_of ?c_point_of ?k_point_of ?a_side_of ?l_side_of ?c_side_of ?k_side_of ?a_stands ?l_stands ?c_stands ?k_stands ?a_keep_earlier ?l_keep_earlier ?c_keep_earlier ?k_keep_earlier ?a_Step_init ?i_Step_init ?l_Step_init ?c_Step_init ?k_Step_init ?a_Step_turns ?i_Step_turns ?l_Step_turns ?c_Step_turns ?k_Step_turns ?a_Step_side_behind ?i_Step_side_behind ?l_Step_side_behind ?c_Step_side_behind ?k_Step_side_behind ?a_Passage_init ?i_Passage_init ?l_Passage_init ?c_Passage_init ?k_Passage_init ?a_Passage_lay ?i_Passage_lay ?l_Passage_lay ?c_Passage_lay ?k_Passage_lay ?a_Passage_begins ?i_Passage_begins ?l_Passage_begins ?c_Passage_begins ?k_Passage_begins ?a_Passage_shoal ?i_Passage_shoal ?l_Passage_shoal ?c_Passage_shoal ?k_Passage_shoal ?a_Passage_winds ?i_Passage_winds ?l_Passage_winds ?c_Passage_winds ?k_Passage_winds ?a_Passage_strong ?i_Passage_strong ?l_Passage_strong ?c_Passage_strong ?k_Passage_strong ?a_Passage_boat ?i_Passage_boat ?l_Passage_boat ?c_Passage_boat ?k_Passage_boat ?a_Passage_places ?i_Passage_places ?l_Passage_places ?c_Passage_places ?k_Passage_places ?a_Passage_sail ?i_Passage_sail ?l_Passage_sail ?c_Passage_sail ?k_Passage_sail ?a_Passage_change ?i_Passage_change ?l_Passage_change ?c_Passage_change ?k_Passage_change ?a_Passage_soonest ?i_Passage_soonest ?l_Passage_soonest ?c_Passage_soonest ?k_Passage_soonest ?a_Passage_check ?i_Passage_check ?l_Passage_check ?c_Passage_check ?k_Passage_check ?a_Passage_has_cell ?i_Passage_has_cell ?l_Passage_has_cell ?c_Passage_has_cell ?k_Passage_has_cell ?a_Passage_is_way ?i_Passage_is_way ?l_Passage_is_way ?c_Passage_is_way ?k_Passage_is_way ?a_Passage_first_stand ?i_Passage_first_stand ?l_Passage_first_stand ?c_Passage_first_stand ?k_Passage_first_stand ?a_Passage_has_room ?i_Passage_has_room ?l_Passage_has_room ?c_Passage_has_room ?k_Passage_has_room ?a_Passage_cell_behind ?i_Passage_cell_behind ?l_Passage_cell_behind ?c_Passage_cell_behind ?k_Passage_cell_behind ?a_Passage_step_at ?i_Passage_step_at ?l_Passage_step_at ?c_Passage_step_at ?k_Passage_step_at ?a_Passage_steps_at ?i_Passage_steps_at ?l_Passage_steps_at ?c_Passage_steps_at ?k_Passage_steps_at ?a_Passage_stand_behind ?i_Passage_stand_behind ?l_Passage_stand_behind ?c_Passage_stand_behind ?k_Passage_stand_behind ?a_Passage_lengthen ?i_Passage_lengthen ?l_Passage_lengthen ?c_Passage_lengthen ?k_Passage_lengthen ?a_has_row ?l_has_row ?c_has_row ?k_has_row ?a_numbers_start ?l_numbers_start ?c_numbers_start ?k_numbers_start ?a_numbers_end ?l_numbers_end ?c_numbers_end ?k_numbers_end ?a_answer_to ?l_answer_to ?c_answer_to ?k_answer_to ?a_answers_about ?l_answers_about ?c_answers_about ?k_answers_about ?a_answers ?l_answers ?c_answers ?k_answers ?pg_Step ?hd_Step ?po_Step ?sa_Step ?mk_Step ?kc_Step ?pg_Passage ?hd_Passage ?po_Passage ?sa_Passage ?mk_Passage ?kc_Passage ?nf_Step_heading ?nf_Step_with_sail ?nf_Step_side ?nf_Step_minutes ?nf_Passage_wide ?nf_Passage_high ?nf_Passage_shoals ?nf_Passage_wind_row ?nf_Passage_strength_row ?nf_Passage_step_minutes ?nf_Passage_turn_minutes ?nf_Passage_change_minutes ?nf_Passage_sails ?nf_Passage_boat_cell ?nf_Passage_mark_cell ?q_BEGINS ?q_SHOAL ?q_WINDS ?q_STRONG ?q_BOAT ?q_PLACES ?q_SAIL ?q_CHANGE ?q_SOONEST ?q_CHECK ?q_NUMBERS ?v_NUMBERS ?q_OUT_OF_BOUNDS ?q_NO_SUCH_CELL ?q_CELL_TAKEN ?q_SHOAL_ALREADY ?q_SAILS_FULL ?q_CANNOT_BE_DONE ?q_LEAST_CELLS ?q_MOST_CELLS ?q_LONGEST_ROW ?q_EIGHTHS ?q_GREATEST_STRENGTH ?q_MOST_MINUTES ?q_MOST_SAILS ?q_LAST_MINUTE ?q_MOST_STEPS ?q_RIGHTWARD ?v_RIGHTWARD ?q_DOWNWARD ?v_DOWNWARD ?q_NO_SIDE ?q_SIDE_ON ?q_SIDE_BACK ?q_LEAST ?q_GREATEST ?q_SLOW ?q_MINUTE ?q_CELL ?q_SIDE ?q_SAIL_SET ?z_len ?z_list ?z_max ?z_min ?z_range
    (case a_Step => k_is)
    (case a_Passage => k_is)
    (case a_is_extent => k_is)
    (case l_is_extent => k_is)
    (case c_is_extent => k_is)
    (case k_is_extent => k_is)
    (case a_is_row => k_is)
    (case l_is_row => k_is)
    (case c_is_row => k_is)
    (case k_is_row => k_is)
    (case a_told_at => k_is)
    (case l_told_at => k_is)
    (case c_told_at => k_is)
    (case k_told_at => k_is)
    (case a_point_of => k_is)
    (case l_point_of => k_is)
    (case c_point_of => k_is)
    (case k_point_of => k_is)
    (case a_side_of => k_is)
    (case l_side_of => k_is)
    (case c_side_of => k_is)
    (case k_side_of => k_is)
    (case a_stands => k_is)
    (case l_stands => k_is)
    (case c_stands => k_is)
    (case k_stands => k_is)
    (case a_keep_earlier => k_is)
    (case l_keep_earlier => k_is)
    (case c_keep_earlier => k_is)
    (case k_keep_earlier => k_is)
    (case a_Step_init => k_is)
    (case i_Step_init => k_is)
    (case l_Step_init => k_is)
    (case c_Step_init => k_is)
    (case k_Step_init => k_is)
    (case a_Step_turns => k_is)
    (case i_Step_turns => k_is)
    (case l_Step_turns => k_is)
    (case c_Step_turns => k_is)
    (case k_Step_turns => k_is)
    (case a_Step_side_behind => k_is)
    (case i_Step_side_behind => k_is)
    (case l_Step_side_behind => k_is)
    (case c_Step_side_behind => k_is)
    (case k_Step_side_behind => k_is)
    (case a_Passage_init => k_is)
    (case i_Passage_init => k_is)
    (case l_Passage_init => k_is)
    (case c_Passage_init => k_is)
    (case k_Passage_init => k_is)
    (case a_Passage_lay => k_is)
    (case i_Passage_lay => k_is)
    (case l_Passage_lay => k_is)
    (case c_Passage_lay => k_is)
    (case k_Passage_lay => k_is)
    (case a_Passage_begins => k_is)
    (case i_Passage_begins => k_is)
    (case l_Passage_begins => k_is)
    (case c_Passage_begins => k_is)
    (case k_Passage_begins => k_is)
    (case a_Passage_shoal => k_is)
    (case i_Passage_shoal => k_is)
    (case l_Passage_shoal => k_is)
    (case c_Passage_shoal => k_is)
    (case k_Passage_shoal => k_is)
    (case a_Passage_winds => k_is)
    (case i_Passage_winds => k_is)
    (case l_Passage_winds => k_is)
    (case c_Passage_winds => k_is)
    (case k_Passage_winds => k_is)
    (case a_Passage_strong => k_is)
    (case i_Passage_strong => k_is)
    (case l_Passage_strong => k_is)
    (case c_Passage_strong => k_is)
    (case k_Passage_strong => k_is)
    (case a_Passage_boat => k_is)
    (case i_Passage_boat => k_is)
    (case l_Passage_boat => k_is)
    (case c_Passage_boat => k_is)
    (case k_Passage_boat => k_is)
    (case a_Passage_places => k_is)
    (case i_Passage_places => k_is)
    (case l_Passage_places => k_is)
    (case c_Passage_places => k_is)
    (case k_Passage_places => k_is)
    (case a_Passage_sail => k_is)
    (case i_Passage_sail => k_is)
    (case l_Passage_sail => k_is)
    (case c_Passage_sail => k_is)
    (case k_Passage_sail => k_is)
    (case a_Passage_change => k_is)
    (case i_Passage_change => k_is)
    (case l_Passage_change => k_is)
    (case c_Passage_change => k_is)
    (case k_Passage_change => k_is)
    (case a_Passage_soonest => k_is)
    (case i_Passage_soonest => k_is)
    (case l_Passage_soonest => k_is)
    (case c_Passage_soonest => k_is)
    (case k_Passage_soonest => k_is)
    (case a_Passage_check => k_is)
    (case i_Passage_check => k_is)
    (case l_Passage_check => k_is)
    (case c_Passage_check => k_is)
    (case k_Passage_check => k_is)
    (case a_Passage_has_cell => k_is)
    (case i_Passage_has_cell => k_is)
    (case l_Passage_has_cell => k_is)
    (case c_Passage_has_cell => k_is)
    (case k_Passage_has_cell => k_is)
    (case a_Passage_is_way => k_is)
    (case i_Passage_is_way => k_is)
    (case l_Passage_is_way => k_is)
    (case c_Passage_is_way => k_is)
    (case k_Passage_is_way => k_is)
    (case a_Passage_first_stand => k_is)
    (case i_Passage_first_stand => k_is)
    (case l_Passage_first_stand => k_is)
    (case c_Passage_first_stand => k_is)
    (case k_Passage_first_stand => k_is)
    (case a_Passage_has_room => k_is)
    (case i_Passage_has_room => k_is)
    (case l_Passage_has_room => k_is)
    (case c_Passage_has_room => k_is)
    (case k_Passage_has_room => k_is)
    (case a_Passage_cell_behind => k_is)
    (case i_Passage_cell_behind => k_is)
    (case l_Passage_cell_behind => k_is)
    (case c_Passage_cell_behind => k_is)
    (case k_Passage_cell_behind => k_is)
    (case a_Passage_step_at => k_is)
    (case i_Passage_step_at => k_is)
    (case l_Passage_step_at => k_is)
    (case c_Passage_step_at => k_is)
    (case k_Passage_step_at => k_is)
    (case a_Passage_steps_at => k_is)
    (case i_Passage_steps_at => k_is)
    (case l_Passage_steps_at => k_is)
    (case c_Passage_steps_at => k_is)
    (case k_Passage_steps_at => k_is)
    (case a_Passage_stand_behind => k_is)
    (case i_Passage_stand_behind => k_is)
    (case l_Passage_stand_behind => k_is)
    (case c_Passage_stand_behind => k_is)
    (case k_Passage_stand_behind => k_is)
    (case a_Passage_lengthen => k_is)
    (case i_Passage_lengthen => k_is)
    (case l_Passage_lengthen => k_is)
    (case c_Passage_lengthen => k_is)
    (case k_Passage_lengthen => k_is)
    (case a_has_row => k_is)
    (case l_has_row => k_is)
    (case c_has_row => k_is)
    (case k_has_row => k_is)
    (case a_numbers_start => k_is)
    (case l_numbers_start => k_is)
    (case c_numbers_start => k_is)
    (case k_numbers_start => k_is)
    (case a_numbers_end => k_is)
    (case l_numbers_end => k_is)
    (case c_numbers_end => k_is)
    (case k_numbers_end => k_is)
    (case a_answer_to => k_is)
    (case l_answer_to => k_is)
    (case c_answer_to => k_is)
    (case k_answer_to => k_is)
    (case a_answers_about => k_is)
    (case l_answers_about => k_is)
    (case c_answers_about => k_is)
    (case k_answers_about => k_is)
    (case a_answers => k_is)
    (case l_answers => k_is)
    (case c_answers => k_is)
    (case k_answers => k_is)
    (case pg_Step => k_is)
    (case hd_Step => k_is)
    (case po_Step => k_is)
    (case sa_Step => k_is)
    (case mk_Step => k_is)
    (case kc_Step => k_is)
    (case pg_Passage => k_is)
    (case hd_Passage => k_is)
    (case po_Passage => k_is)
    (case sa_Passage => k_is)
    (case mk_Passage => k_is)
    (case kc_Passage => k_is)
    (case nf_Step_heading => k_is)
    (case nf_Step_with_sail => k_is)
    (case nf_Step_side => k_is)
    (case nf_Step_minutes => k_is)
    (case nf_Passage_wide => k_is)
    (case nf_Passage_high => k_is)
    (case nf_Passage_shoals => k_is)
    (case nf_Passage_wind_row => k_is)
    (case nf_Passage_strength_row => k_is)
    (case nf_Passage_step_minutes => k_is)
    (case nf_Passage_turn_minutes => k_is)
    (case nf_Passage_change_minutes => k_is)
    (case nf_Passage_sails => k_is)
    (case nf_Passage_boat_cell => k_is)
    (case nf_Passage_mark_cell => k_is)
    (case q_BEGINS => k_is)
    (case q_SHOAL => k_is)
    (case q_WINDS => k_is)
    (case q_STRONG => k_is)
    (case q_BOAT => k_is)
    (case q_PLACES => k_is)
    (case q_SAIL => k_is)
    (case q_CHANGE => k_is)
    (case q_SOONEST => k_is)
    (case q_CHECK => k_is)
    (case q_NUMBERS => k_is)
    (case v_NUMBERS => k_is)
    (case q_OUT_OF_BOUNDS => k_is)
    (case q_NO_SUCH_CELL => k_is)
    (case q_CELL_TAKEN => k_is)
    (case q_SHOAL_ALREADY => k_is)
    (case q_SAILS_FULL => k_is)
    (case q_CANNOT_BE_DONE => k_is)
    (case q_LEAST_CELLS => k_is)
    (case q_MOST_CELLS => k_is)
    (case q_LONGEST_ROW => k_is)
    (case q_EIGHTHS => k_is)
    (case q_GREATEST_STRENGTH => k_is)
    (case q_MOST_MINUTES => k_is)
    (case q_MOST_SAILS => k_is)
    (case q_LAST_MINUTE => k_is)
    (case q_MOST_STEPS => k_is)
    (case q_RIGHTWARD => k_is)
    (case v_RIGHTWARD => k_is)
    (case q_DOWNWARD => k_is)
    (case v_DOWNWARD => k_is)
    (case q_NO_SIDE => k_is)
    (case q_SIDE_ON => k_is)
    (case q_SIDE_BACK => k_is)
    (case q_LEAST => k_is)
    (case q_GREATEST => k_is)
    (case q_SLOW => k_is)
    (case q_MINUTE => k_is)
    (case q_CELL => k_is)
    (case q_SIDE => k_is)
    (case q_SAIL_SET => k_is)
    (case z_len => k_is)
    (case z_list => k_is)
    (case z_max => k_is)
    (case z_min => k_is)
    (case z_range => k_is)
  case S =>
    intro K H xs a hO hwi hask hx
    cases hx with
    | cons h1 h2 =>
      cases h2
      cases h1 with
      | lst hs ha =>
        have e := L2.ints_dw a.1 _ ha
        subst e
        have q : ((Codec.inLen 0 4500 a.1 && a.1.all (Codec.inInt 0 4294967295)) && true) = true := hwi
        rw [Bool.and_eq_true, Bool.and_eq_true] at q
        exact ⟨_, a.1, rfl, hs, hask, fun H' p hp => .lst (L2.SqL.of hp) (L2.dw_ints _)⟩

end
