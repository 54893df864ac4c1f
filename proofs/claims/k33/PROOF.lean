import PyProof.Rows.All
import Wide.All
import OpenK.AllK
import Wide.FinOn
import PyProof.EqAt
import PyProof.EqKinds
import PyProof.TupleCall
import KE.BitLaws
import PyProof.Rows.SortShellAny
import PyProof.P3In
import KE.KSortTupG
import KE.KItemsList
import PyProof.NeKinds
import PySem.Challenge.RW_widerows_k33_windows_narrowed
-- CHANGE: your row's module here, as the last of these rows
set_option Elab.async false
set_option linter.all false
set_option maxRecDepth 100000
/-! THE HAND LAYER, for ints, bools, texts, own classes, lists, tuples, dicts, comprehensions, walks over dicts, enumerate, zip, reversed, texts, calls, loops. Paste it whole ahead of your own text; what your proof does not reach may be deleted. -/
namespace L2
open PySem PySem.Spec PyProof.Rows

/-- a key: an int or a str -/
abbrev Key := Sum Int Str
def keyIs : Key → Value → Bool
  | .inl k, v => Value.isInt k v
  | .inr x, v => Value.isStrOf x v
def keyH (w : World) : Key → Int
  | .inl k => hashInt k
  | .inr x => hashStr w x
theorem keyIs_shape : ∀ {k : Key} {v : Value}, keyIs k v = true → (∃ i t, k = Sum.inl i ∧ v = Value.int i t) ∨ (∃ x t, k = Sum.inr x ∧ v = Value.str x t)
  | .inl i, v, h => by
    obtain ⟨t, e⟩ := Value.isInt_shape (k := i) (v := v) h
    exact .inl ⟨i, t, rfl, e⟩
  | .inr x, v, h => by
    obtain ⟨t, e⟩ := Value.isStrOf_shape (x := x) (v := v) h
    exact .inr ⟨x, t, rfl, e⟩
theorem keyIs_int (i : Int) (t : Tok) : keyIs (.inl i) (.int i t) = true := by simp [keyIs, Value.isInt]
theorem keyIs_str (x : Str) (t : Tok) : keyIs (.inr x) (.str x t) = true := by simp [keyIs, Value.isStrOf]
theorem key_ll (a b : Int) : decide ((Sum.inl a : Key) = Sum.inl b) = (a == b) := by
  by_cases e : a = b
  · subst e; simp
  · have h : ¬ (Sum.inl a : Key) = Sum.inl b := fun q => e (Sum.inl.inj q)
    rw [decide_eq_false h]
    exact (beq_eq_false_iff_ne.mpr e).symm
theorem key_rr (a b : Str) : decide ((Sum.inr a : Key) = Sum.inr b) = decide (a = b) := by
  by_cases e : a = b
  · subst e; simp
  · have h : ¬ (Sum.inr a : Key) = Sum.inr b := fun q => e (Sum.inr.inj q)
    rw [decide_eq_false h, decide_eq_false e]
theorem key_lr (a : Int) (b : Str) : decide ((Sum.inl a : Key) = Sum.inr b) = false := decide_eq_false (fun q => nomatch q)
theorem key_rl (a : Str) (b : Int) : decide ((Sum.inr a : Key) = Sum.inl b) = false := decide_eq_false (fun q => nomatch q)

def mixKind (prog : Program) (w : World) : PySem.KeyKind prog w Key where
  is := keyIs
  hash := keyH w
  inj := fun v a b ha hb => by
    rcases keyIs_shape ha with ⟨i, t, rfl, rfl⟩ | ⟨x, t, rfl, rfl⟩
    · rcases keyIs_shape hb with ⟨j, u, rfl, e⟩ | ⟨y, u, rfl, e⟩
      · injection e with e1 _; rw [e1]
      · exact nomatch e
    · rcases keyIs_shape hb with ⟨j, u, rfl, e⟩ | ⟨y, u, rfl, e⟩
      · exact nomatch e
      · injection e with e1 _; rw [e1]
  byValue := fun k v h => by
    rcases keyIs_shape h with ⟨i, t, rfl, rfl⟩ | ⟨x, t, rfl, rfl⟩ <;> rfl
  pyHash := fun hv h => by
    rcases keyIs_shape hv with ⟨i, t, rfl, rfl⟩ | ⟨x, t, rfl, rfl⟩
    · exact wpAny_pyHash_int h
    · exact wpAny_pyHash_str h
  eqBool := fun hu hv h => by
    rcases keyIs_shape hu with ⟨i, t, rfl, rfl⟩ | ⟨x, t, rfl, rfl⟩
    · rcases keyIs_shape hv with ⟨j, u, rfl, rfl⟩ | ⟨y, u, rfl, rfl⟩
      · rw [key_ll] at h; exact wpAny_eqBool_int h
      · rw [key_lr] at h; exact SeqAt.EqAt.int_str i t y u _ _ _ _ h
    · rcases keyIs_shape hv with ⟨j, u, rfl, rfl⟩ | ⟨y, u, rfl, rfl⟩
      · rw [key_rl] at h; exact SeqAt.EqAt.str_int x t j u _ _ _ _ h
      · rw [key_rr] at h; exact wpAny_eqBool_str h
  «strs» := fun k x t v h => by
    rcases keyIs_shape h with ⟨i, u, rfl, e⟩ | ⟨y, u, rfl, e⟩
    · exact nomatch e
    · injection e with e1 _
      subst e1
      cases v <;> rfl

theorem mixKind_int (prog : Program) (w : World) (i : Int) (t : Tok) : (mixKind prog w).is (.inl i) (.int i t) = true := keyIs_int i t
theorem mixKind_str (prog : Program) (w : World) (x : Str) (t : Tok) : (mixKind prog w).is (.inr x) (.str x t) = true := keyIs_str x t
end L2

namespace L2
open PySem PySem.Spec PyProof.Rows

/-- a value, without the heap -/
inductive V where
  | non | bl (b : Bool) | int (i : Int) | str (x : Str) | byt (b : Array UInt8) | flt (b : UInt64) | ref (a : Addr) | ty (n : String)
  deriving DecidableEq

def RelV : V → Value → Prop
  | .non, u => u = Value.none
  | .bl b, u => u = Value.bool b
  | .int i, u => ∃ t, u = Value.int i t
  | .str x, u => ∃ t, u = Value.str x t
  | .byt b, u => ∃ t, u = Value.bytes b t
  | .flt b, u => ∃ t, u = Value.float b t
  | .ref a, u => u = Value.ref a
  | .ty n, u => u = Value.type n

abbrev Vals : List V → List Value → Prop := Paired RelV
theorem Vals.length {xs : List V} {us : List Value} (r : Vals xs us) : xs.length = us.length := Paired.length r
theorem Vals.get : ∀ {xs : List V} {us : List Value} {i : Nat} {x : V}, Vals xs us → xs[i]? = some x → ∃ u, us[i]? = some u ∧ RelV x u
  | _, _, _, _, .nil, e => by simp at e
  | _, _, 0, _, .cons r _, e => by simp at e; subst e; exact ⟨_, rfl, r⟩
  | _, _, i + 1, x, .cons _ t, e => by
    obtain ⟨u, h1, h2⟩ := Vals.get (i := i) (x := x) t (by simpa using e)
    exact ⟨u, by simpa using h1, h2⟩
theorem Vals.set {x : V} {u : Value} (r : RelV x u) : ∀ {xs : List V} {us : List Value} (i : Nat), Vals xs us → Vals (xs.set i x) (us.set i u)
  | _, _, _, .nil => .nil
  | _, _, 0, .cons _ t => .cons r t
  | _, _, i + 1, .cons q t => .cons q (Vals.set r i t)
theorem Vals.append : ∀ {xs ys : List V} {us ws : List Value}, Vals xs us → Vals ys ws → Vals (xs ++ ys) (us ++ ws)
  | _, _, _, _, .nil, s => s
  | _, _, _, _, .cons r t, s => .cons r (Vals.append t s)
theorem Vals.take : ∀ {xs : List V} {us : List Value} (n : Nat), Vals xs us → Vals (xs.take n) (us.take n)
  | _, _, 0, _ => .nil
  | _, _, _ + 1, .nil => .nil
  | _, _, n + 1, .cons r t => .cons r (Vals.take n t)
theorem Vals.drop : ∀ {xs : List V} {us : List Value} (n : Nat), Vals xs us → Vals (xs.drop n) (us.drop n)
  | _, _, 0, r => r
  | _, _, _ + 1, .nil => .nil
  | _, _, n + 1, .cons _ t => Vals.drop n t
def RelO : Option V → Option Value → Prop
  | some v, some u => RelV v u
  | none, none => True
  | _, _ => False
def KV {κ : Type} : List (κ × V) → List (κ × Value) → Prop := Paired fun (p : κ × V) (q : κ × Value) => p.1 = q.1 ∧ RelV p.2 q.2

/-- a key of a dict (00_mix): an int or a text -/
def kV : Key → V
  | .inl i => .int i
  | .inr x => .str x

/-- what stands at a tracked address -/
inductive HO where
  /-- a list -/
  | lst (xs : List V)
  /-- a tuple (never changes) -/
  | tup (xs : List V)
  /-- a dict whose keys are ints and texts; one whose keys are tuples of ints and texts (the empty one is both) -/
  | dK (kvs : List (Key × V)) | dT (kvs : List (List Key × V))
  /-- a set of ints: its members, its size -/
  | set (S : Int → Bool) (n : Nat)
  /-- an instance of the class at C, its dict at dx, its attributes -/
  | ins (C dx : Addr) (fs : List (Str × V))
  /-- the dict of the instance at x -/
  | own (x : Addr)
  /-- the dict of an exception -/
  | xd (fs : List (Str × V))
  /-- a bound method, f of x -/
  | met (f x : Addr)
  /-- a range object lo, lo + 1, .. below hi -/
  | rng (lo hi : Int)
  /-- a thing that is known to the object (the script; a dict while a loop walks it): read, never written while it is so -/
  | frz (o : Obj) (u : HO)
  /-- a code object's table -/
  | tbl (ps : Array Value)
  /-- any other thing, by what is true of its one object (a def of one's own: SetO a S n := HO.ext fun h => ..) -/
  | ext (φ : Heap → Prop)

abbrev Hp := Addr → Option HO
def upd (H : Hp) (a : Addr) (o : HO) : Hp := fun b => if b = a then some o else H b
theorem upd_same {H : Hp} {a : Addr} {o : HO} : upd H a o a = some o := by unfold upd; rw [if_pos rfl]
theorem upd_ne {H : Hp} {a b : Addr} {o : HO} (h : b ≠ a) : upd H a o b = H b := by unfold upd; rw [if_neg h]
/-- two objects of different content stand apart -/
theorem ne_of {H : Hp} {a b : Addr} {o u : HO} (h : H a = some o) (h' : H b = some u) (d : o ≠ u) : a ≠ b := by
  intro e; subst e; rw [h] at h'; exact d (Option.some.inj h')
theorem ne_of_none {H : Hp} {a b : Addr} {o : HO} (h : H a = some o) (h' : H b = none) : a ≠ b := by
  intro e; subst e; rw [h] at h'; cases h'

section
variable (P : Program) (w : World)
def ObjOk (H : Hp) (h : Heap) (a : Addr) : HO → Prop
  | .lst xs => xs.length ≤ sizeLine ∧ ∃ (its : List Value) (n : Nat), Vals xs its ∧ h.get? a = some { cls := .type "list", data := .seq its.toArray n }
  | .tup xs => xs.length ≤ sizeLine ∧ ∃ its : List Value, Vals xs its ∧ IsTup h a its.toArray ∧ ∃ o, h.get? a = some o ∧ o.dict = none
  | .dK kvs => kvs.length ≤ sizeLine ∧ (a == sysModules) = false ∧ ∃ vs, KV kvs vs ∧ h.DictOf (mixKind P w) a vs
  | .dT kvs => kvs.length ≤ sizeLine ∧ (a == sysModules) = false ∧ ∃ xs : List (List Key × Addr × Value),
      Paired (fun (p : List Key × V) (q : List Key × Addr × Value) => p.1 = q.1 ∧ H q.2.1 = some (.tup (p.1.map kV)) ∧ RelV p.2 q.2.2) kvs xs ∧
      ∃ o es ep, h.get? a = some o ∧ o.ExactDict ∧ o.data = .dict es ep ∧ es.toList = xs.map (entryOfKey (tupleKind (mixKind P w))) ∧ (xs.map (·.1)).Nodup
  | .set S n => h.SetOf (intKind P w) a S n
  | .ins C dx fs => H dx = some (.own a) ∧ fs.length ≤ 1000 ∧ dx ≠ a ∧ h.get? a = some (PySem.W.instObj C dx) ∧
      ∃ mA, h.Ns1 dx mA ∧ (∀ f, RelO (fs.lookup f) (mA f)) ∧ PySem.Within mA (fs.map (·.1))
  | .own _ => ∃ o, h.get? a = some o
  | .xd fs => ∃ mA, h.Ns1 a mA ∧ ∀ f, RelO (fs.lookup f) (mA f)
  | .rng lo hi => ∃ t u v, h.get? a = some { cls := .type "range", data := .fields #[.int lo t, .int hi u, .int 1 v] }
  | .frz o u => h.get? a = some o ∧ ObjOk H h a u
  | .tbl ps => h.get? a = some { cls := .none, data := .fields ps }
  | .met f x => h.get? a = some (PySem.W.methodObj (.ref f) (.ref x))
  | .ext φ => φ h ∧ (∃ o, h.get? a = some o) ∧ ∀ h1 h2 : Heap, φ h1 → (∀ o, h1.get? a = some o → h2.get? a = some o) → φ h2
/-- the abstract heap is held -/
def HOk (H : Hp) (h : Heap) : Prop := ∀ a o, H a = some o → ObjOk P w H h a o
end

section
variable {P : Program} {w : World} {H H' : Hp} {h h' : Heap} {a : Addr} {o : HO}
theorem ObjOk.lt (x : ObjOk P w H h a o) : a < h.objs.size := by
  cases o with
  | lst xs => obtain ⟨_, _, _, _, e⟩ := x; exact Heap.lt_size e
  | tup xs => obtain ⟨_, _, _, p, _⟩ := x; exact p.lt
  | dK kvs => obtain ⟨_, _, _, _, o, _, _, e, _⟩ := x; exact Heap.lt_size e
  | dT kvs => obtain ⟨_, _, _, _, o, _, _, e, _⟩ := x; exact Heap.lt_size e
  | set S n => obtain ⟨o, _, _, _, e, _⟩ := x; exact Heap.lt_size e
  | ins C dx fs => obtain ⟨_, _, _, e, _⟩ := x; exact Heap.lt_size e
  | own y => obtain ⟨_, e⟩ := x; exact Heap.lt_size e
  | xd fs => obtain ⟨_, ⟨_, _, _, e, _⟩, _⟩ := x; exact Heap.lt_size e
  | rng lo hi => obtain ⟨_, _, _, e⟩ := x; exact Heap.lt_size e
  | frz ob u => obtain ⟨e, _⟩ := x; exact Heap.lt_size e
  | tbl ps => exact Heap.lt_size (show h.get? a = some _ from x)
  | met f y => exact Heap.lt_size (show h.get? a = some _ from x)
  | ext φ => obtain ⟨_, ⟨_, e⟩, _⟩ := x; exact Heap.lt_size e
theorem Paired.mapP {α β : Type} {F G : α → β → Prop} : ∀ {l₁ : List α} {l₂ : List β}, Paired F l₁ l₂ → (∀ a b, F a b → G a b) → Paired G l₁ l₂
  | _, _, .nil, _ => .nil
  | _, _, .cons r t, f => .cons (f _ _ r) (Paired.mapP t f)
/-- what an object's description leans on: its own object, its own dict, the tuples -/
theorem ObjOk.stay (x : ObjOk P w H h a o) (k : ∀ b u, (b = a ∨ H b = some (.own a)) → h.get? b = some u → h'.get? b = some u)
    (ho : ∀ b, H b = some (.own a) → H' b = some (.own a)) (ht : ∀ b xs, H b = some (.tup xs) → H' b = some (.tup xs)) : ObjOk P w H' h' a o := by
  induction o with
  | lst xs => obtain ⟨z, its, n, r, e⟩ := x; exact ⟨z, its, n, r, k _ _ (.inl rfl) e⟩
  | tup xs => obtain ⟨z, its, r, ⟨ob, e, c⟩, o2, e2, c2⟩ := x; exact ⟨z, its, r, ⟨ob, k _ _ (.inl rfl) e, c⟩, o2, k _ _ (.inl rfl) e2, c2⟩
  | dK kvs => obtain ⟨z, y, vs, r, ob, es, ep, e, c⟩ := x; exact ⟨z, y, vs, r, ob, es, ep, k _ _ (.inl rfl) e, c⟩
  | dT kvs =>
    obtain ⟨z, y, xs, r, ob, es, ep, e, c⟩ := x
    exact ⟨z, y, xs, Paired.mapP r fun p q z => ⟨z.1, ht _ _ z.2.1, z.2.2⟩, ob, es, ep, k _ _ (.inl rfl) e, c⟩
  | set S n => obtain ⟨ob, es, ep, t, e, c⟩ := x; exact ⟨ob, es, ep, t, k _ _ (.inl rfl) e, c⟩
  | ins C dx fs =>
    obtain ⟨d, z, ne, e, mA, ⟨od, es, ep, e2, c⟩, r⟩ := x
    exact ⟨ho _ d, z, ne, k _ _ (.inl rfl) e, mA, ⟨od, es, ep, k _ _ (.inr d) e2, c⟩, r⟩
  | own y => obtain ⟨ob, e⟩ := x; exact ⟨ob, k _ _ (.inl rfl) e⟩
  | xd fs => obtain ⟨mA, ⟨od, es, ep, e, c⟩, r⟩ := x; exact ⟨mA, ⟨od, es, ep, k _ _ (.inl rfl) e, c⟩, r⟩
  | rng lo hi => obtain ⟨t, u, v, e⟩ := x; exact ⟨t, u, v, k _ _ (.inl rfl) e⟩
  | frz ob u ih => obtain ⟨e, q⟩ := x; exact ⟨k _ _ (.inl rfl) e, ih q⟩
  | tbl ps =>
    have e : h.get? a = some { cls := .none, data := .fields ps } := x
    show h'.get? a = some { cls := .none, data := .fields ps }
    exact k a _ (.inl rfl) e
  | met f y =>
    have e : h.get? a = some (PySem.W.methodObj (.ref f) (.ref y)) := x
    show h'.get? a = some (PySem.W.methodObj (.ref f) (.ref y))
    exact k a _ (.inl rfl) e
  | ext φ => obtain ⟨p, ⟨o, e⟩, st⟩ := x; exact ⟨st _ _ p fun o q => k _ _ (.inl rfl) q, ⟨o, k _ _ (.inl rfl) e⟩, st⟩
theorem HOk.lt (x : HOk P w H h) (e : H a = some o) : a < h.objs.size := (x a o e).lt
theorem HOk.fresh (x : HOk P w H h) (e : h.objs.size ≤ a) : H a = none := by
  cases q : H a with
  | none => rfl
  | some u => exact absurd (Nat.lt_of_lt_of_le (x.lt q) e) (Nat.lt_irrefl _)
/-- every object of the heap is kept -/
theorem HOk.kept (x : HOk P w H h) (k : ∀ b u, h.get? b = some u → h'.get? b = some u) : HOk P w H h' := fun a o e =>
  (x a o e).stay (fun b u _ q => k b u q) (fun _ q => q) fun _ _ q => q
/-- a new object is laid and tracked -/
theorem HOk.laid (x : HOk P w H h) (k : ∀ b u, h.get? b = some u → h'.get? b = some u) (hp : h.objs.size ≤ a) (new : ObjOk P w (upd H a o) h' a o) : HOk P w (upd H a o) h' := fun b u e => by
  have hn := x.fresh hp
  by_cases hb : b = a
  · subst hb; rw [upd_same] at e; cases e; exact new
  · rw [upd_ne hb] at e
    exact (x b u e).stay (fun c v _ q => k c v q) (fun c q => by rw [upd_ne (ne_of_none q hn)]; exact q) fun c xs q => by rw [upd_ne (ne_of_none q hn)]; exact q
end

/-- what may be read as u: it is u, or a known u -/
def Rd (H : Hp) (a : Addr) (u : HO) : Prop := H a = some u ∨ ∃ o, H a = some (.frz o u)
theorem Rd.of {H : Hp} {a : Addr} {u : HO} (h : H a = some u) : Rd H a u := .inl h
theorem Rd.ok {P : Program} {w : World} {H : Hp} {h : Heap} {a : Addr} {u : HO} (r : Rd H a u) (x : HOk P w H h) : ObjOk P w H h a u := by
  rcases r with r | ⟨o, r⟩
  · exact x a u r
  · obtain ⟨_, q⟩ := x a _ r
    exact q
/-- what may be written -/
def Mut : Option HO → Prop
  | some (.lst _) => True
  | some (.dK _) => True
  | some (.dT _) => True
  | some (.set _ _) => True
  | some (.ins _ _ _) => True
  | some (.ext _) => True
  | _ => False
section
variable {P : Program} {w : World} {H : Hp} {h h' : Heap} {x e : Addr} {o' : HO}
/-- the object at e is changed: x itself, or the dict of the instance x -/
theorem HOk.write (ok : HOk P w H h) (mu : Mut (H x)) (he : e = x ∨ H e = some (.own x)) (k : ∀ b u, b ≠ e → h.get? b = some u → h'.get? b = some u) (heo : ∃ u, h'.get? e = some u)
    (new : ObjOk P w (upd H x o') h' x o') : HOk P w (upd H x o') h' := fun b u q => by
  have nown : ∀ c y, H c = some (.own y) → c ≠ x := fun c y r z => by subst z; rw [r] at mu; exact mu
  have ntup : ∀ c xs, H c = some (.tup xs) → c ≠ x := fun c xs r z => by subst z; rw [r] at mu; exact mu
  by_cases hb : b = x
  · subst hb; rw [upd_same] at q; cases q; exact new
  · rw [upd_ne hb] at q
    by_cases hbe : b = e
    · have q' : H b = some (.own x) := by
        rcases he with z | z
        · exact absurd (hbe.trans z) hb
        · rw [hbe]; exact z
      rw [q] at q'; cases q'
      obtain ⟨v, hv⟩ := heo
      exact ⟨v, by rw [hbe]; exact hv⟩
    · refine (ok b u q).stay (fun c v hc r => k c v ?_ r) (fun c r => by rw [upd_ne (nown c b r)]; exact r) fun c xs r => by rw [upd_ne (ntup c xs r)]; exact r
      rcases hc with rfl | hc
      · exact hbe
      · rintro rfl
        rcases he with z | z
        · exact nown c b hc z
        · rw [hc] at z; cases z; exact hb rfl
end

/-! ### kept unless tracked; of the frames at fs (the callers') the slots may change (an exception that passes writes there); of the records at ex (iterators) nothing is said -/
structure Un (fs ex : List Addr) (H H' : Hp) (h h' : Heap) : Prop where
  keep : ∀ b o, h.get? b = some o → H b = none → b ∉ fs → b ∉ ex → h'.get? b = some o
  slot : ∀ b o, h.get? b = some o → H b = none → b ∈ fs → b ∉ ex → ∃ sl, h'.get? b = some { o with slots := sl }
  free : ∀ b o, h.get? b = some o → H b = none → b ∉ ex → H' b = none
  there : ∀ b o, h.get? b = some o → b ∉ ex → ∃ o', h'.get? b = some o'
  tups : ∀ b xs, H b = some (.tup xs) → H' b = some (.tup xs)
  frzs : ∀ b o u, H b = some (.frz o u) → H' b = some (.frz o u)
  tbls : ∀ b ps, H b = some (.tbl ps) → ∃ more, H' b = some (.tbl (ps ++ more))
section
variable {fs fs' ex ex' : List Addr} {H H1 H2 : Hp} {h h1 h2 h' : Heap} {a x e : Addr} {o : HO}
theorem Un.any (u : Un fs ex H H1 h h1) {b : Addr} {ob : Obj} (q : h.get? b = some ob) (n : H b = none) (hx : b ∉ ex) : ∃ sl, h1.get? b = some { ob with slots := sl } := by
  by_cases hb : b ∈ fs
  · exact u.slot b ob q n hb hx
  · exact ⟨ob.slots, u.keep b ob q n hb hx⟩
theorem Un.trans (a : Un fs ex H H1 h h1) (b : Un fs ex H1 H2 h1 h2) : Un fs ex H H2 h h2 where
  keep := fun c ob q n hc hx => b.keep c ob (a.keep c ob q n hc hx) (a.free c ob q n hx) hc hx
  slot := fun c ob q n hc hx => by
    obtain ⟨sl, e1⟩ := a.slot c ob q n hc hx
    obtain ⟨sl', e2⟩ := b.slot c _ e1 (a.free c ob q n hx) hc hx
    exact ⟨sl', e2⟩
  free := fun c ob q n hx => by
    obtain ⟨o', e1⟩ := a.there c ob q hx
    exact b.free c o' e1 (a.free c ob q n hx) hx
  there := fun c ob q hx => by
    obtain ⟨o', e1⟩ := a.there c ob q hx
    exact b.there c o' e1 hx
  tups := fun c xs q => b.tups c xs (a.tups c xs q)
  frzs := fun c ob xs q => b.frzs c ob xs (a.frzs c ob xs q)
  tbls := fun c ps q => by
    obtain ⟨m1, e1⟩ := a.tbls c ps q
    obtain ⟨m2, e2⟩ := b.tbls c _ e1
    exact ⟨m1 ++ m2, by rw [e2, Array.append_assoc]⟩
theorem Un.kept (k : ∀ b u, h.get? b = some u → h'.get? b = some u) : Un fs ex H H h h' :=
  ⟨fun b ob q _ _ _ => k b ob q, fun b ob q _ _ _ => ⟨ob.slots, k b ob q⟩, fun _ _ _ n _ => n, fun b ob q _ => ⟨ob, k b ob q⟩, fun _ _ q => q, fun _ _ _ q => q, fun _ ps q => ⟨#[], by rw [q]; simp⟩⟩
theorem Un.refl : Un fs ex H H h h := Un.kept fun _ _ q => q
theorem Un.laid (k : ∀ b u, h.get? b = some u → h'.get? b = some u) (hp : h.objs.size ≤ a) (hn : H a = none) : Un fs ex H (upd H a o) h h' where
  keep := fun b u q _ _ _ => k b u q
  slot := fun b u q _ _ _ => ⟨u.slots, k b u q⟩
  free := fun b u q n _ => by rw [upd_ne (Nat.ne_of_lt (Nat.lt_of_lt_of_le (Heap.lt_size q) hp))]; exact n
  there := fun b u q _ => ⟨u, k b u q⟩
  tups := fun b xs q => by rw [upd_ne (ne_of_none q hn)]; exact q
  frzs := fun b u xs q => by rw [upd_ne (ne_of_none q hn)]; exact q
  tbls := fun b ps q => ⟨#[], by rw [upd_ne (ne_of_none q hn), q]; simp⟩
theorem Un.write (mu : Mut (H x)) (he : e = x ∨ H e = some (.own x)) (k : ∀ b u, b ≠ e → h.get? b = some u → h'.get? b = some u) (heo : ∃ u, h'.get? e = some u) : Un fs ex H (upd H x o) h h' := by
  have hx : ∀ b, H b = none → b ≠ x := fun b n z => by subst z; rw [n] at mu; exact mu
  have hb : ∀ b, H b = none → b ≠ e := fun b n z => by
    subst z
    rcases he with r | r
    · exact hx b n r
    · rw [n] at r; cases r
  have hm : ∀ b u, H b = some u → ¬ Mut (some u) → b ≠ x := fun b u q nm z => by subst z; rw [q] at mu; exact nm mu
  refine ⟨fun b u q n _ _ => k b u (hb b n) q, fun b u q n _ _ => ⟨u.slots, k b u (hb b n) q⟩, fun b u q n _ => by rw [upd_ne (hx b n)]; exact n, fun b u q _ => ?_,
    fun b xs q => by rw [upd_ne (hm b _ q fun z => z)]; exact q, fun b u xs q => by rw [upd_ne (hm b _ q fun z => z)]; exact q, fun b ps q => ⟨#[], by rw [upd_ne (hm b _ q fun z => z), q]; simp⟩⟩
  by_cases hbe : b = e
  · subst hbe; exact heo
  · exact ⟨u, k b u hbe q⟩
theorem Un.mono (u : Un fs ex H H1 h h1) (hs : ∀ b ∈ fs, b ∈ fs') (hx : ∀ b ∈ ex, b ∈ ex') : Un fs' ex' H H1 h h1 :=
  ⟨fun b ob q n hb he => u.keep b ob q n (fun z => hb (hs b z)) fun z => he (hx b z), fun _ _ q n _ he => u.any q n fun z => he (hx _ z), fun b ob q n he => u.free b ob q n fun z => he (hx b z), fun b ob q he => u.there b ob q fun z => he (hx b z), u.tups, u.frzs, u.tbls⟩
end

/-! ### the heap without what is tracked -/
def trk (h : Heap) (H : Hp) : List Addr := (List.range h.objs.size).filter fun a => (H a).isSome
def hidT (h : Heap) (H : Hp) : Heap := PySem.W.hideAll h (trk h H)
theorem hidT_size (h : Heap) (H : Hp) : (hidT h H).objs.size = h.objs.size := PySem.W.hideAll_size _ _
theorem hidT_get {h : Heap} {H : Hp} {b : Addr} {o : Obj} (e : h.get? b = some o) (n : H b = none) : (hidT h H).get? b = some o :=
  PySem.W.hideAll_get _ e fun hm => by
    have q : (H b).isSome = true := (List.mem_filter.mp hm).2
    rw [n] at q; simp at q
theorem of_hidT {h : Heap} {H : Hp} {b : Addr} {o : Obj} (e : (hidT h H).get? b = some o) : h.get? b = some o ∧ H b = none := by
  have e' : h.get? b = some o := PySem.W.of_hideAll (trk h H) e
  refine ⟨e', ?_⟩
  cases q : H b with
  | none => rfl
  | some x =>
    have hm : b ∈ trk h H := List.mem_filter.mpr ⟨List.mem_range.mpr (Heap.lt_size e'), by simp [q]⟩
    have z : (hidT h H).get? b = none := PySem.W.hideAll_none (trk h H) hm
    rw [z] at e; cases e

/-! ### OpenK's ledger, filled with every new object but one -/
def allNews (g h : Heap) (L : Addr) : List (Addr × Obj) := (List.range h.objs.size).filterMap fun a => if a = L ∨ (g.get? a).isSome = true then none else (h.get? a).map fun o => (a, o)
def rest (g h : Heap) (L d : Addr) : List (Addr × Obj) := (allNews g h L).filter fun p => decide (p.1 ≠ d)
end L2

namespace L2
open PySem PySem.Spec PyProof.Rows

/-- the module's facts, over the base: the heap at the law's entry without what is tracked there -/
structure Mod (K : PySem.W.Frag) (mg : Str → Option Value) (base : Heap) : Prop where
  kin : K.In base
  glob : base.Ns mainGlobals mg
  blt : ∃ mb, base.Ns builtinsNs mb ∧ ∀ x : Str, x ≠ "__name__" → mb x = bootBuiltins x
  nolimit : base.NoLimit

/-- the context: a def's body (or a comprehension's block) running. base: fixed through the whole law; s₀, H₀: the entry; outer: the frames whose slots others may change (a def's callers); stack: all frames that run;
   ex: iterators that were made ahead of the entry and are walked here (a comprehension's); fn: the names whose cells were made at the entry (a def: all; a comprehension's block: its own); calm: not within an except suite; pn: pins that every state bears; xe: what is wanted of an exception that leaves the code -/
structure Cx where
  prog : Program
  w : World
  K : PySem.W.Frag
  mg : Str → Option Value
  base : Heap
  A : Around
  N : List Str
  s_0 : Shared
  H_0 : Hp
  env : Env
  outer : List Env
  stack : List Env
  ex : List Addr
  fn : Str → Bool
  calm : Bool
  pn : List (Addr × Obj)
  xe : Value → Shared → Prop
/-- the callers' frames -/
def frs (l : List Env) : List Addr := l.filterMap (·.frame)
abbrev Cx.fs (X : Cx) : List Addr := frs X.outer

def Vis (sc : Scope) (x : Str) : Prop := sc.names.lookup x = some .local ∨ sc.names.lookup x = some .cell ∨ sc.names.lookup x = some .free
def Loc (sc : Scope) (x : Str) : Prop := sc.names.lookup x = some .local ∨ sc.names.lookup x = some .cell
def Look (env : Env) (h : Heap) (m : Str → Option Value) (x : Str) (u : Value) : Prop :=
  (env.kindOf x = some .local ∧ m x = some u) ∨ ((env.kindOf x = some .cell ∨ env.kindOf x = some .free) ∧ ∃ c, env.cells.lookup x = some c ∧ h.IsCell c (some u))

structure Cx.Ok (X : Cx) : Prop where
  mod : Mod X.K X.mg X.base
  kind : X.env.scope.kind = .function
  glob : X.env.globals = mainGlobals
  blt : X.env.builtins = builtinsNs
  above : X.s_0.heap.objs.size ≤ X.env.locals
  inj : ∀ x y c, X.env.cells.lookup x = some c → X.env.cells.lookup y = some c → x = y
  has : ∀ x, (X.env.kindOf x = some .cell ∨ X.env.kindOf x = some .free) → ∃ c, X.env.cells.lookup x = some c
  cab : ∀ x c, X.fn x = true → X.env.cells.lookup x = some c → X.s_0.heap.objs.size ≤ c
  hd : X.calm = true → X.A.handled = none
  frames : X.A.frames = some X.stack
  stk : X.stack = X.outer ∨ (X.stack = X.env :: X.outer ∧ X.env.frame = some X.env.locals)
  exf : ∀ b ∈ X.ex, b ≠ X.env.locals ∧ ∀ x c, X.env.cells.lookup x = some c → c ≠ b
  bs : ∀ b o, X.base.get? b = some o → X.s_0.heap.get? b = some o ∧ X.H_0 b = none
  bsz : X.base.objs.size ≤ X.s_0.heap.objs.size
  noex : ∀ b o, X.base.get? b = some o → b ∉ X.ex
  exfs : ∀ b ∈ X.ex, b ∉ X.fs
  funs : X.s_0.heap.FunFrames X.base X.outer
  frf : ∀ b ∈ X.fs, X.H_0 b = none

structure Inv (X : Cx) (pins : List (Addr × Obj)) (σ : List (Option V)) (H : Hp) (s : Shared) : Prop where
  ok : X.Ok
  os : s.os = X.s_0.os
  bare : AllBare s.gens
  base : Un X.fs X.ex X.H_0 H X.s_0.heap s.heap
  loc : ∃ m, s.heap.Ns X.env.locals m ∧ ∀ (i : Nat) (x : Str) (v : V), X.N[i]? = some x → σ[i]? = some (some v) → Vis X.env.scope x → ∃ u, RelV v u ∧ Look X.env s.heap m x u
  cell : ∀ x c, X.env.cells.lookup x = some c → ∃ v, s.heap.IsCell c v
  free : H X.env.locals = none
  freeC : ∀ x c, X.env.cells.lookup x = some c → H c = none
  pin : ∀ p ∈ X.pn ++ pins, s.heap.get? p.1 = some p.2 ∧ H p.1 = none ∧ p.1 ≠ X.env.locals ∧ p.1 ∉ X.fs ∧ ∀ v, p.2.data ≠ .cell v
  hok : HOk X.prog X.w H s.heap
  len : σ.length = X.N.length

section
variable {X : Cx} {pins : List (Addr × Obj)} {σ : List (Option V)} {H H' : Hp} {s : Shared} {h' : Heap}

theorem Cx.Ok.nofr (ok : X.Ok) {b : Addr} {o : Obj} (e : X.base.get? b = some o) : b ∉ X.fs := fun hb => by
  have := (ok.funs.mem hb).1
  rw [e] at this; cases this
theorem Inv.bs (I : Inv X pins σ H s) : ∀ b o, X.base.get? b = some o → s.heap.get? b = some o ∧ H b = none := fun b o e =>
  ⟨I.base.keep b o (I.ok.bs b o e).1 (I.ok.bs b o e).2 (I.ok.nofr e) (I.ok.noex b o e), I.base.free b o (I.ok.bs b o e).1 (I.ok.bs b o e).2 (I.ok.noex b o e)⟩
theorem Inv.bk (I : Inv X pins σ H s) : ∀ b o, X.base.get? b = some o → s.heap.get? b = some o := fun b o e => (I.bs b o e).1
theorem Inv.mod (I : Inv X pins σ H s) : Mod X.K X.mg X.base := I.ok.mod
theorem Inv.kIn (I : Inv X pins σ H s) : X.K.In s.heap := I.ok.mod.kin.keeps I.bk
theorem Inv.nolimit (I : Inv X pins σ H s) : s.heap.NoLimit := I.ok.mod.nolimit.keeps I.bk
theorem Inv.lt (I : Inv X pins σ H s) : X.env.locals < s.heap.objs.size := let ⟨_, hn, _⟩ := I.loc; hn.lt
theorem Inv.sz (I : Inv X pins σ H s) : X.s_0.heap.objs.size ≤ s.heap.objs.size := Nat.le_trans I.ok.above (Nat.le_of_lt I.lt)
theorem Inv.nofs (I : Inv X pins σ H s) {a : Addr} (h : s.heap.objs.size ≤ a) : a ∉ X.fs := fun hb => by
  obtain ⟨_, o, ho, _⟩ := I.ok.funs.mem hb
  exact absurd (Nat.lt_of_lt_of_le (Heap.lt_size ho) (Nat.le_trans I.sz h)) (Nat.lt_irrefl _)
theorem Inv.cne (I : Inv X pins σ H s) : ∀ x c, X.env.cells.lookup x = some c → c ≠ X.env.locals := fun x c e z => by
  obtain ⟨v, o, ho, hd⟩ := I.cell x c e
  obtain ⟨m, ⟨o', es, ep, ho', hd', _⟩, _⟩ := I.loc
  rw [z, ho'] at ho; cases ho; rw [hd'] at hd; cases hd
theorem Inv.funs (I : Inv X pins σ H s) : s.heap.FunFrames X.base X.outer := by
  have all : ∀ (l : List Env), (∀ b ∈ frs l, b ∈ X.fs) → X.s_0.heap.FunFrames X.base l → s.heap.FunFrames X.base l := by
    intro l
    induction l with
    | nil => intro _ _; trivial
    | cons env r ih =>
      intro hs hl
      obtain ⟨hk, ⟨L, o, hf, hn, ho, hd⟩, hr⟩ := hl
      have hL : L ∈ X.fs := hs L (by unfold frs; rw [List.filterMap_cons, hf]; exact List.mem_cons_self)
      obtain ⟨sl, e⟩ := I.base.slot L o ho (I.ok.frf L hL) hL fun z => I.ok.exfs L z hL
      exact ⟨hk, ⟨L, _, hf, hn, e, hd⟩, ih (fun b hb => hs b (by unfold frs; rw [List.filterMap_cons, hf]; exact List.mem_cons_of_mem _ hb)) hr⟩
  exact all X.outer (fun _ hb => hb) I.ok.funs

/-- the frames that run, for a call -/
theorem Inv.stack (I : Inv X pins σ H s) : s.heap.FunFrames X.base X.stack := by
  rcases I.ok.stk with e | ⟨e, hf⟩
  · rw [e]; exact I.funs
  · rw [e]
    obtain ⟨m, hn, _⟩ := I.loc
    refine .cons (by rw [I.ok.kind]; decide) hf hn ?_ I.funs
    exact Heap.get?_none_of_le (Nat.le_trans I.ok.bsz I.ok.above)
theorem Inv.stkSub (I : Inv X pins σ H s) : ∀ b ∈ frs X.stack, b ∈ X.env.locals :: X.fs := fun b hb => by
  rcases I.ok.stk with e | ⟨e, hf⟩
  · rw [e] at hb; exact List.mem_cons_of_mem _ hb
  · rw [e] at hb
    unfold frs at hb
    rw [List.filterMap_cons, hf] at hb
    exact hb
theorem Inv.stkFree (I : Inv X pins σ H s) : ∀ b ∈ frs X.stack, H b = none := fun b hb => by
  rcases List.mem_cons.mp (I.stkSub b hb) with e | hb
  · rw [e]; exact I.free
  · obtain ⟨_, o, ho, _⟩ := I.ok.funs.mem hb
    exact I.base.free b o ho (I.ok.frf b hb) fun z => I.ok.exfs b z hb

/-- THE STEP: the untracked objects but the frame and the records at ch are kept (the callers' frames up to slots), the frame's map is kept, the new abstract heap is held -/
theorem Inv.step {g' : Array GenState} {t' : Nat} {d' : Drawn} {ch : List Addr} (I : Inv X pins σ H s)
    (hch : ∀ b ∈ ch, (b ∈ X.ex ∨ X.s_0.heap.objs.size ≤ b) ∧ b ≠ X.env.locals ∧ (∀ x c, X.env.cells.lookup x = some c → c ≠ b) ∧ ∀ p ∈ X.pn ++ pins, p.1 ≠ b)
    (keep : ∀ b o, b ≠ X.env.locals → b ∉ X.fs → b ∉ ch → s.heap.get? b = some o → H b = none → h'.get? b = some o)
    (slot : ∀ b o, b ≠ X.env.locals → b ∈ X.fs → b ∉ ch → s.heap.get? b = some o → H b = none → ∃ sl, h'.get? b = some { o with slots := sl }) (free : ∀ b o, b ∉ ch → s.heap.get? b = some o → H b = none → H' b = none)
    (there : ∀ b o, b ∉ ch → s.heap.get? b = some o → ∃ o', h'.get? b = some o')
    (tups : ∀ b xs, H b = some (.tup xs) → H' b = some (.tup xs)) (frzs : ∀ b o u, H b = some (.frz o u) → H' b = some (.frz o u)) (tbls : ∀ b ps, H b = some (.tbl ps) → ∃ more, H' b = some (.tbl (ps ++ more)))
    (ns : ∀ m, s.heap.Ns X.env.locals m → h'.Ns X.env.locals m) (hok : HOk X.prog X.w H' h') (hg : AllBare g') :
    Inv X pins σ H' { s with heap := h', gens := g', drawn := d', toks := t' } := by
  have neL : ∀ b o, X.s_0.heap.get? b = some o → b ≠ X.env.locals := fun b o e => Nat.ne_of_lt (Nat.lt_of_lt_of_le (Heap.lt_size e) I.ok.above)
  have neC : ∀ b o, X.s_0.heap.get? b = some o → b ∉ X.ex → b ∉ ch := fun b o e hx hb => by
    rcases (hch b hb).1 with z | z
    · exact hx z
    · exact absurd (Nat.lt_of_lt_of_le (Heap.lt_size e) z) (Nat.lt_irrefl _)
  have cellK : ∀ x c, X.env.cells.lookup x = some c → ∀ v, s.heap.IsCell c v → h'.IsCell c v := fun x c e v ⟨o, ho, hd⟩ => by
    have nch : c ∉ ch := fun z => (hch c z).2.2.1 x c e rfl
    by_cases hc : c ∈ X.fs
    · obtain ⟨sl, q⟩ := slot c o (I.cne x c e) hc nch ho (I.freeC x c e)
      exact ⟨_, q, hd⟩
    · exact ⟨o, keep c o (I.cne x c e) hc nch ho (I.freeC x c e), hd⟩
  refine ⟨I.ok, I.os, hg, ⟨fun b o e n hb hx => ?_, fun b o e n hb hx => ?_, fun b o e n hx => ?_, fun b o e hx => ?_, fun b xs e => tups b xs (I.base.tups b xs e), fun b o xs e => frzs b o xs (I.base.frzs b o xs e), fun b ps e => ?_⟩, ?_, fun x c e => ?_, ?_, fun x c e => ?_, fun p hp => ?_, hok, I.len⟩
  · exact keep b o (neL b o e) hb (neC b o e hx) (I.base.keep b o e n hb hx) (I.base.free b o e n hx)
  · obtain ⟨sl, e1⟩ := I.base.slot b o e n hb hx
    obtain ⟨sl', e2⟩ := slot b _ (neL b o e) hb (neC b o e hx) e1 (I.base.free b o e n hx)
    exact ⟨sl', e2⟩
  · obtain ⟨o', e1⟩ := I.base.there b o e hx
    exact free b o' (neC b o e hx) e1 (I.base.free b o e n hx)
  · obtain ⟨o', e1⟩ := I.base.there b o e hx
    exact there b o' (neC b o e hx) e1
  · obtain ⟨m1, e1⟩ := I.base.tbls b ps e
    obtain ⟨m2, e2⟩ := tbls b _ e1
    exact ⟨m1 ++ m2, by rw [e2, Array.append_assoc]⟩
  · obtain ⟨m, hn, hl⟩ := I.loc
    refine ⟨m, ns m hn, fun i x v e1 e2 e3 => ?_⟩
    obtain ⟨u, r, l⟩ := hl i x v e1 e2 e3
    refine ⟨u, r, ?_⟩
    rcases l with l | ⟨k, c, e, z⟩
    · exact .inl l
    · exact .inr ⟨k, c, e, cellK x c e _ z⟩
  · obtain ⟨v, z⟩ := I.cell x c e
    exact ⟨v, cellK x c e v z⟩
  · obtain ⟨m, ⟨o, _, _, ho, _⟩, _⟩ := I.loc
    exact free _ o (fun z => (hch _ z).2.1 rfl) ho I.free
  · obtain ⟨v, o, ho, hd⟩ := I.cell x c e
    exact free c o (fun z => (hch c z).2.2.1 x c e rfl) ho (I.freeC x c e)
  · obtain ⟨e, n, ne, nf, d⟩ := I.pin p hp
    have nch : p.1 ∉ ch := fun z => (hch p.1 z).2.2.2 p hp rfl
    exact ⟨keep p.1 p.2 ne nf nch e n, free p.1 p.2 nch e n, ne, nf, d⟩
/-- .. where the frame's own object is kept too -/
theorem Inv.un {t' : Nat} (I : Inv X pins σ H s) (u : Un X.fs [] H H' s.heap h') (hok : HOk X.prog X.w H' h') : Inv X pins σ H' { s with heap := h', toks := t' } := by
  obtain ⟨m, ⟨o, es, ep, ho, r⟩, _⟩ := id I.loc
  obtain ⟨sl, hL⟩ := u.any ho I.free (by simp)
  exact I.step (g' := s.gens) (d' := s.drawn) (ch := []) (fun _ z => nomatch z) (fun b o _ hb _ e n => u.keep b o e n hb (by simp)) (fun b o _ hb _ e n => u.slot b o e n hb (by simp)) (fun b o _ e n => u.free b o e n (by simp)) (fun b o _ e => u.there b o e (by simp)) u.tups u.frzs u.tbls (fun m' hm => by
    obtain ⟨o', es', ep', ho', r'⟩ := hm
    rw [ho] at ho'; cases ho'
    exact ⟨_, es', ep', hL, r'⟩) hok I.bare
/-- behind a call (or a comprehension's block): the slots of this frame may have changed too, the records at ch may have turned -/
theorem Inv.call {g' : Array GenState} {t' : Nat} {d' : Drawn} {ch : List Addr} (I : Inv X pins σ H s) (u : Un (frs X.stack) ch H H' s.heap h') (hok : HOk X.prog X.w H' h') (hg : AllBare g')
    (hch : ∀ b ∈ ch, (b ∈ X.ex ∨ X.s_0.heap.objs.size ≤ b) ∧ b ≠ X.env.locals ∧ (∀ x c, X.env.cells.lookup x = some c → c ≠ b) ∧ ∀ p ∈ X.pn ++ pins, p.1 ≠ b) :
    Inv X pins σ H' { s with heap := h', gens := g', drawn := d', toks := t' } := by
  obtain ⟨m, ⟨o, es, ep, ho, r⟩, _⟩ := id I.loc
  obtain ⟨sl, hL⟩ := u.any ho I.free fun z => (hch _ z).2.1 rfl
  exact I.step (ch := ch) hch (fun b o hL hb hc e n => u.keep b o e n (fun z => (List.mem_cons.mp (I.stkSub b z)).elim hL hb) hc) (fun b o _ _ hc e n => u.any e n hc) (fun b o hc e n => u.free b o e n hc) (fun b o hc e => u.there b o e hc) u.tups u.frzs u.tbls (fun m' hm => by
    obtain ⟨o', es', ep', ho', r'⟩ := hm
    rw [ho] at ho'; cases ho'
    exact ⟨_, es', ep', hL, r'⟩) hok hg
/-- an untracked record of ours (an iterator) has turned -/
theorem Inv.turned {t' : Nat} {it : Addr} (I : Inv X pins σ H s) (k : ∀ b o, b ≠ it → s.heap.get? b = some o → h'.get? b = some o) (hn : H it = none) (hL : it ≠ X.env.locals)
    (h1 : it ∈ X.ex ∨ X.s_0.heap.objs.size ≤ it) (h2 : ∀ x c, X.env.cells.lookup x = some c → c ≠ it) (h3 : ∀ p ∈ X.pn ++ pins, p.1 ≠ it) : Inv X pins σ H { s with heap := h', toks := t' } := by
  have nit : ∀ b u, H b = some u → b ≠ it := fun b u e z => by rw [z, hn] at e; cases e
  refine I.step (g' := s.gens) (d' := s.drawn) (ch := [it]) (fun b hb => ?_) (fun b o _ _ hc e _ => k b o (fun z => hc (by simp [z])) e) (fun b o _ _ hc e _ => ⟨o.slots, k b o (fun z => hc (by simp [z])) e⟩) (fun _ _ _ _ n => n)
    (fun b o hc e => ⟨o, k b o (fun z => hc (by simp [z])) e⟩) (fun _ _ e => e) (fun _ _ _ e => e) (fun b ps e => ⟨#[], by rw [e]; simp⟩) (fun m hm => ?_) (fun b u e => ?_) I.bare
  · have e : b = it := by simpa using hb
    subst e
    exact ⟨h1, hL, h2, h3⟩
  · obtain ⟨o, es, ep, ho, r⟩ := hm
    exact ⟨o, es, ep, k _ o (Ne.symm hL) ho, r⟩
  · refine (I.hok b u e).stay (fun c v hc q => k c v ?_ q) (fun _ q => q) fun _ _ q => q
    rcases hc with z | z
    · rw [z]; exact nit b u e
    · exact nit c _ z
theorem Inv.tok (I : Inv X pins σ H s) (t : Nat) : Inv X pins σ H { s with toks := t } := I.un (h' := s.heap) (t' := t) Un.refl I.hok
/-- all objects kept -/
theorem Inv.kept {t' : Nat} (I : Inv X pins σ H s) (k : ∀ b u, s.heap.get? b = some u → h'.get? b = some u) : Inv X pins σ H { s with heap := h', toks := t' } := I.un (Un.kept k) (I.hok.kept k)
/-- a new object laid and tracked -/
theorem Inv.laid {a : Addr} {o : HO} {t' : Nat} (I : Inv X pins σ H s) (k : ∀ b u, s.heap.get? b = some u → h'.get? b = some u) (hp : s.heap.objs.size ≤ a) (new : ObjOk X.prog X.w (upd H a o) h' a o) :
    Inv X pins σ (upd H a o) { s with heap := h', toks := t' } := I.un (Un.laid k hp (I.hok.fresh hp)) (I.hok.laid k hp new)
/-- an object written -/
theorem Inv.write {x e : Addr} {o : HO} {t' : Nat} (I : Inv X pins σ H s) (mu : Mut (H x)) (he : e = x ∨ H e = some (.own x)) (k : ∀ b u, b ≠ e → s.heap.get? b = some u → h'.get? b = some u) (heo : ∃ u, h'.get? e = some u)
    (new : ObjOk X.prog X.w (upd H x o) h' x o) : Inv X pins σ (upd H x o) { s with heap := h', toks := t' } := I.un (Un.write mu he k heo) (I.hok.write mu he k heo new)
/-- forgetting slots, pins -/
theorem Inv.weak {σ' : List (Option V)} (I : Inv X pins σ H s) (hl : σ'.length = σ.length) (w : ∀ (i : Nat) v, σ'[i]? = some (some v) → σ[i]? = some (some v)) : Inv X pins σ' H s :=
  ⟨I.ok, I.os, I.bare, I.base, let ⟨m, hn, hl'⟩ := I.loc; ⟨m, hn, fun i x v e1 e2 e3 => hl' i x v e1 (w i v e2) e3⟩, I.cell, I.free, I.freeC, I.pin, I.hok, hl.trans I.len⟩
theorem Inv.pins_of {pins' : List (Addr × Obj)} (I : Inv X pins σ H s) (h : ∀ p ∈ pins', s.heap.get? p.1 = some p.2 ∧ H p.1 = none ∧ p.1 ≠ X.env.locals ∧ p.1 ∉ X.fs ∧ ∀ v, p.2.data ≠ .cell v) : Inv X pins' σ H s :=
  ⟨I.ok, I.os, I.bare, I.base, I.loc, I.cell, I.free, I.freeC, fun p hp => (List.mem_append.mp hp).elim (fun z => I.pin p (List.mem_append_left _ z)) (h p), I.hok, I.len⟩

theorem nodup_ix {N : List Str} (hN : N.Nodup) {i j : Nat} {x : Str} (a : N[i]? = some x) (b : N[j]? = some x) : i = j := by
  obtain ⟨h1, e1⟩ := List.getElem?_eq_some_iff.mp a
  obtain ⟨h2, e2⟩ := List.getElem?_eq_some_iff.mp b
  exact (List.getElem_inj hN).mp (e1.trans e2.symm)

/-- a name is stored; what changed -/
theorem store_ok2 {M : Model} {A : Around} {E : Value → Shared → Prop} {i : Nat} {x : Str} {v : V} {u : Value} {Q : Unit → Shared → Prop} (I : Inv X pins σ H s) (hN : X.N.Nodup) (hi : X.N[i]? = some x) (hx : Loc X.env.scope x) (r : RelV v u)
    (h : ∀ s', Inv X pins (σ.set i (some v)) H s' → (∃ a, Heap.SameBut a s.heap s'.heap ∧ (a = X.env.locals ∨ X.env.cells.lookup x = some a)) → Q () s') (hf : X.fn x = true ∨ X.env.scope.names.lookup x = some .local := by first | exact .inl rfl | exact .inr rfl | assumption) : wpAny M A (storeName X.env x u) Q E s := by
  obtain ⟨m, hn, hl⟩ := id I.loc
  have hcls : (X.env.scope.kind == .class || (X.env.scope.kind == .module && X.env.locals != X.env.globals)) = false := by rw [I.ok.kind]; rfl
  have hiσ : i < σ.length := by rw [I.len]; exact (List.getElem?_eq_some_iff.mp hi).1
  have cne := I.cne
  have tracked : ∀ {a : Addr} {h' : Heap}, (∃ o, s.heap.get? a = some o ∧ H a = none) → Heap.SameBut a s.heap h' → HOk X.prog X.w H h' := fun {a h'} ha hs b ob e => by
    obtain ⟨_, _, hfree⟩ := ha
    refine (I.hok b ob e).stay (fun c w' hc q => (hs.2 c ?_).trans q) (fun _ q => q) fun _ _ q => q
    rintro rfl
    rcases hc with rfl | hc
    · rw [hfree] at e; cases e
    · rw [hfree] at hc; cases hc
  rcases hx with hk | hk
  · refine wpAny_storeName_local hk hn (fun h' hn' hs => ?_) hcls
    obtain ⟨oL, _, _, hoL, _⟩ := id hn
    refine h _ ⟨I.ok, I.os, I.bare, ⟨fun b o e n hb hx => ?_, fun b o e n hb hx => ?_, I.base.free, fun b o e hx => ?_, I.base.tups, I.base.frzs, I.base.tbls⟩, ⟨_, hn', fun j y v' e1 e2 e3 => ?_⟩, fun y c e => ?_, I.free, I.freeC, fun p hp => ?_, tracked ⟨oL, hoL, I.free⟩ hs, by simpa using I.len⟩ ⟨_, hs, .inl rfl⟩
    · exact (hs.2 b (Nat.ne_of_lt (Nat.lt_of_lt_of_le (Heap.lt_size e) I.ok.above))).trans (I.base.keep b o e n hb hx)
    · obtain ⟨sl, e1⟩ := I.base.slot b o e n hb hx
      exact ⟨sl, (hs.2 b (Nat.ne_of_lt (Nat.lt_of_lt_of_le (Heap.lt_size e) I.ok.above))).trans e1⟩
    · obtain ⟨o', e1⟩ := I.base.there b o e hx
      exact ⟨o', (hs.2 b (Nat.ne_of_lt (Nat.lt_of_lt_of_le (Heap.lt_size e) I.ok.above))).trans e1⟩
    · by_cases hj : j = i
      · subst hj
        rw [hi] at e1; cases e1
        rw [List.getElem?_set_self hiσ] at e2
        cases e2
        exact ⟨u, r, .inl ⟨hk, by simp⟩⟩
      · rw [List.getElem?_set_ne (Ne.symm hj)] at e2
        obtain ⟨u', r', q⟩ := hl j y v' e1 e2 e3
        refine ⟨u', r', ?_⟩
        rcases q with ⟨k, e⟩ | ⟨k, c, e, z⟩
        · refine .inl ⟨k, ?_⟩
          have : y ≠ x := fun e => hj (nodup_ix hN e1 (e ▸ hi))
          simp [this, e]
        · exact .inr ⟨k, c, e, z.sameBut hs (cne y c e)⟩
    · obtain ⟨w', z⟩ := I.cell y c e
      exact ⟨w', z.sameBut hs (cne y c e)⟩
    · obtain ⟨e, n, ne, nf, d⟩ := I.pin p hp
      exact ⟨(hs.2 p.1 ne).trans e, n, ne, nf, d⟩
  · have hfn : X.fn x = true := by
      rcases hf with z | z
      · exact z
      · rw [z] at hk; cases hk
    obtain ⟨c, hc⟩ := I.ok.has x (.inl hk)
    obtain ⟨w', z⟩ := I.cell x c hc
    refine wpAny_storeName_cell I.ok.kind hk hc z (fun h' hc' hs => ?_)
    obtain ⟨oc, hoc, hocd⟩ := id z
    refine h { s with heap := h' } ⟨I.ok, I.os, I.bare, ⟨fun b o e n hb hx => ?_, fun b o e n hb hx => ?_, I.base.free, fun b o e hx => ?_, I.base.tups, I.base.frzs, I.base.tbls⟩, ⟨m, hn.sameBut hs (Ne.symm (cne x c hc)), fun j y v' e1 e2 e3 => ?_⟩, fun y c' e => ?_, I.free, I.freeC, fun p hp => ?_, tracked ⟨oc, hoc, I.freeC x c hc⟩ hs, by simpa using I.len⟩ ⟨c, hs, .inr hc⟩
    · exact (hs.2 b (Nat.ne_of_lt (Nat.lt_of_lt_of_le (Heap.lt_size e) (I.ok.cab x c hfn hc)))).trans (I.base.keep b o e n hb hx)
    · obtain ⟨sl, e1⟩ := I.base.slot b o e n hb hx
      exact ⟨sl, (hs.2 b (Nat.ne_of_lt (Nat.lt_of_lt_of_le (Heap.lt_size e) (I.ok.cab x c hfn hc)))).trans e1⟩
    · obtain ⟨o', e1⟩ := I.base.there b o e hx
      exact ⟨o', (hs.2 b (Nat.ne_of_lt (Nat.lt_of_lt_of_le (Heap.lt_size e) (I.ok.cab x c hfn hc)))).trans e1⟩
    · by_cases hj : j = i
      · subst hj
        rw [hi] at e1; cases e1
        rw [List.getElem?_set_self hiσ] at e2
        cases e2
        exact ⟨u, r, .inr ⟨.inl hk, c, hc, hc'⟩⟩
      · rw [List.getElem?_set_ne (Ne.symm hj)] at e2
        obtain ⟨u', r', q⟩ := hl j y v' e1 e2 e3
        refine ⟨u', r', ?_⟩
        rcases q with q | ⟨k, c', e, z'⟩
        · exact .inl q
        · refine .inr ⟨k, c', e, z'.sameBut hs ?_⟩
          rintro rfl
          exact hj (nodup_ix hN e1 (I.ok.inj _ _ _ e hc ▸ hi))
    · by_cases hcc : c' = c
      · subst hcc; exact ⟨_, hc'⟩
      · obtain ⟨w2, z2⟩ := I.cell y c' e
        exact ⟨w2, z2.sameBut hs hcc⟩
    · obtain ⟨e, n, ne, nf, d⟩ := I.pin p hp
      refine ⟨(hs.2 p.1 ?_).trans e, n, ne, nf, d⟩
      intro q
      rw [q, hoc] at e
      have q' : oc = p.2 := Option.some.inj e
      exact d w' (by rw [← q']; exact hocd)
theorem store_ok {M : Model} {A : Around} {E : Value → Shared → Prop} {i : Nat} {x : Str} {v : V} {u : Value} {Q : Unit → Shared → Prop} (I : Inv X pins σ H s) (hN : X.N.Nodup) (hi : X.N[i]? = some x) (hx : Loc X.env.scope x) (r : RelV v u)
    (h : ∀ s', Inv X pins (σ.set i (some v)) H s' → Q () s') (hf : X.fn x = true ∨ X.env.scope.names.lookup x = some .local := by first | exact .inl rfl | exact .inr rfl | assumption) : wpAny M A (storeName X.env x u) Q E s :=
  store_ok2 I hN hi hx r (fun s' I' _ => h s' I') hf
/-- behind a call or a block, the state as it is -/
theorem Inv.call' {s' : Shared} {ch : List Addr} (I : Inv X pins σ H s) (ho : s'.os = s.os) (u : Un (frs X.stack) ch H H' s.heap s'.heap) (hok : HOk X.prog X.w H' s'.heap) (hg : AllBare s'.gens)
    (hch : ∀ b ∈ ch, (b ∈ X.ex ∨ X.s_0.heap.objs.size ≤ b) ∧ b ≠ X.env.locals ∧ (∀ x c, X.env.cells.lookup x = some c → c ≠ b) ∧ ∀ p ∈ X.pn ++ pins, p.1 ≠ b) : Inv X pins σ H' s' := by
  obtain ⟨h', g', d', t', o'⟩ := s'
  have e : o' = s.os := ho
  subst e
  exact I.call (g' := g') (t' := t') (d' := d') u hok hg hch
end

/-! ### the judgements -/
/-- an exception: its class, its own dict's address (where it has one), the abstract heap behind it -/
abbrev XK := Value → Option Addr → Hp → Prop
abbrev St := List (Option V)
abbrev VK := V → Hp → Prop
/-- an expression's reading; a test's; an argument list's -/
abbrev TE := St → Hp → VK → Prop
abbrev TT := St → Hp → (Bool → Hp → Prop) → Prop
abbrev TA := St → Hp → (List V → Hp → Prop) → Prop
/-- what is wanted behind a statement -/
structure Ends where
  nx : St → Hp → Prop
  rt : VK
  bk : St → Hp → Prop := fun _ _ => False
  ct : St → Hp → Prop := fun _ _ => False
abbrev TS := Ends → St → Hp → Prop

def EP (X : Cx) (pins : List (Addr × Obj)) (σ : St) (Q : VK) (u : Value) (s' : Shared) : Prop := ∃ v H', Inv X pins σ H' s' ∧ RelV v u ∧ Q v H'
def TP (X : Cx) (pins : List (Addr × Obj)) (σ : St) (Q : Bool → Hp → Prop) (b : Bool) (s' : Shared) : Prop := ∃ H', Inv X pins σ H' s' ∧ Q b H'
def AP (X : Cx) (pins : List (Addr × Obj)) (σ : St) (Q : List V → Hp → Prop) (us : List Value) (s' : Shared) : Prop := ∃ vs H', Inv X pins σ H' s' ∧ Vals vs us ∧ Q vs H'
def SP (X : Cx) (pins : List (Addr × Obj)) (D : Ends) (f : Flow) (s' : Shared) : Prop :=
  match f with
  | .next => ∃ σ' H', Inv X pins σ' H' s' ∧ D.nx σ' H'
  | .brk => ∃ σ' H', Inv X pins σ' H' s' ∧ D.bk σ' H'
  | .cont => ∃ σ' H', Inv X pins σ' H' s' ∧ D.ct σ' H'
  | .ret u => ∃ v σ' H', Inv X pins σ' H' s' ∧ RelV v u ∧ D.rt v H'

def PE (X : Cx) (e : Expr) (t : TE) : Prop :=
  ∀ (pins : List (Addr × Obj)) (s : Shared) (σ : St) (H : Hp) (Q : VK), Inv X pins σ H s → t σ H Q → wpAny (model X.prog X.w) X.A (eval e X.env) (EP X pins σ Q) X.xe s
def PT (X : Cx) (e : Expr) (t : TT) : Prop :=
  ∀ (pins : List (Addr × Obj)) (s : Shared) (σ : St) (H : Hp) (Q : Bool → Hp → Prop), Inv X pins σ H s → t σ H Q → wpAny (model X.prog X.w) X.A (isTrue e X.env (eval e X.env)) (TP X pins σ Q) X.xe s
/-- a test whatever its 'whole' is (and, or) -/
def PW (X : Cx) (e : Expr) (t : TT) : Prop :=
  ∀ (whole : Sem Value) (pins : List (Addr × Obj)) (s : Shared) (σ : St) (H : Hp) (Q : Bool → Hp → Prop), Inv X pins σ H s → t σ H Q → wpAny (model X.prog X.w) X.A (isTrue e X.env whole) (TP X pins σ Q) X.xe s
theorem PW.pt {X : Cx} {e : Expr} {t : TT} (h : PW X e t) : PT X e t := h _
/-- an argument list (no star), from the left -/
def PA (X : Cx) (es : List Expr) (t : TA) : Prop :=
  ∀ (pos : Pos) (pins : List (Addr × Obj)) (s : Shared) (σ : St) (H : Hp) (Q : List V → Hp → Prop), Inv X pins σ H s → t σ H Q → wpAny (model X.prog X.w) X.A (spliced (backTo pos (starEach es X.env))) (AP X pins σ Q) X.xe s
def PS (X : Cx) (st : Stmt) (t : TS) : Prop :=
  ∀ (pins : List (Addr × Obj)) (s : Shared) (σ : St) (H : Hp) (D : Ends), Inv X pins σ H s → t D σ H → wpAny (model X.prog X.w) X.A (exec st X.env) (SP X pins D) X.xe s
def PSs (X : Cx) (st : List Stmt) (t : TS) : Prop :=
  ∀ (pins : List (Addr × Obj)) (s : Shared) (σ : St) (H : Hp) (D : Ends), Inv X pins σ H s → t D σ H → wpAny (model X.prog X.w) X.A (execs st X.env) (SP X pins D) X.xe s
/-- weaken the end -/
theorem thn {α : Type} {t : Sem α} {Q Q' : α → Shared → Prop} {M : Model} {A : Around} {E : Value → Shared → Prop} {s : Shared} (h : wpAny M A t Q E s) (hQ : ∀ a s, Q a s → Q' a s) : wpAny M A t Q' E s := wpAny_mono h hQ fun _ _ x => x
end L2

namespace L2
open PySem PySem.Spec PyProof.Rows
section
variable {X : Cx}

/-! ### names and constants -/
def tVar (i : Nat) : TE := fun σ H Q => ∃ v, σ[i]? = some (some v) ∧ Q v H
def tC (v : V) : TE := fun _ H Q => Q v H
theorem pe_var {i : Nat} {x : Str} {pos : Pos} (hN : X.N[i]? = some x) (hv : Vis X.env.scope x) (hd : (x == ("__debug__" : Str)) = false := by decide) (hcd : (x == ("__classdict__" : Str)) = false := by decide) : PE X (.Name x pos) (tVar i) := by
  intro pins s σ H Q I h
  obtain ⟨v, e, h⟩ := h
  obtain ⟨m, hn, hl⟩ := I.loc
  obtain ⟨u, r, l⟩ := hl i x v hN e hv
  have fin : EP X pins σ Q u s := ⟨v, H, I, r, h⟩
  rcases l with ⟨hk, hm⟩ | ⟨hk, c, hc, hcell⟩
  · exact wpAny_Name (wpAny_loadName_local I.ok.kind hk hn hm fin) hd
  · rcases hk with hk | hk
    · exact wpAny_Name (wpAny_loadName_cell I.ok.kind hk hc hcell fin) hd
    · exact wpAny_Name (wpAny_loadName_free I.ok.kind hk hc hcell fin hcd) hd
theorem pe_int {i j pos} : PE X (.Constant (.int i) j pos) (tC (.int i)) := fun _ _ _ H _ I h => wpAny_Constant_int ⟨.int i, H, I.tok _, ⟨_, rfl⟩, h⟩
theorem pe_bl {b j pos} : PE X (.Constant (.bool b) j pos) (tC (.bl b)) := fun _ _ _ H _ I h => Constant_bool ⟨.bl b, H, I, rfl, h⟩
theorem pe_non {j pos} : PE X (.Constant .none j pos) (tC .non) := fun _ _ _ H _ I h => Constant_none ⟨.non, H, I, rfl, h⟩
/-- a global name of the def -/
def Gl (X : Cx) (x : Str) : Prop := X.env.kindOf x = some .globalImplicit
theorem ld_glob {E : Value → Shared → Prop} {pins : List (Addr × Obj)} {s : Shared} {σ : St} {H : Hp} {x : Str} {u : Value} {pos : Pos} {Q : Value → Shared → Prop} (I : Inv X pins σ H s) (hg : Gl X x) (hm : X.mg x = some u) (h : Q u s)
    (hd : (x == ("__debug__" : Str)) = false := by decide) : wpAny (model X.prog X.w) X.A (eval (.Name x pos) X.env) Q E s :=
  Calls.Name_function_global I.ok.kind hg (Calls.loadGlobal_global (by rw [I.ok.glob]; exact I.mod.glob.keeps I.bk) hm h) hd
theorem ld_blt {E : Value → Shared → Prop} {pins : List (Addr × Obj)} {s : Shared} {σ : St} {H : Hp} {x : Str} {u : Value} {pos : Pos} {Q : Value → Shared → Prop} (I : Inv X pins σ H s) (hg : Gl X x) (hm : X.mg x = none) (hv : bootBuiltins x = some u) (h : Q u s)
    (hn : x ≠ "__name__" := by decide) (hd : (x == ("__debug__" : Str)) = false := by decide) : wpAny (model X.prog X.w) X.A (eval (.Name x pos) X.env) Q E s := by
  obtain ⟨mb, h1, h2⟩ := I.mod.blt
  exact Calls.Name_function_global I.ok.kind hg (Calls.loadGlobal_builtin (by rw [I.ok.glob]; exact I.mod.glob.keeps I.bk) hm (by rw [I.ok.blt]; exact h1.keeps I.bk) ((h2 x hn).trans hv) h) hd
theorem pe_bltn {x : Str} {v : V} {u : Value} {pos : Pos} (hg : Gl X x) (hm : X.mg x = none) (hv : bootBuiltins x = some u) (r : RelV v u) (hn : x ≠ "__name__" := by decide) (hd : (x == ("__debug__" : Str)) = false := by decide) : PE X (.Name x pos) (tC v) :=
  fun _ _ _ H _ I h => ld_blt I hg hm hv ⟨v, H, I, r, h⟩ hn hd

/-! ### arithmetic -/
variable {a b : Expr} {ta tb : TE} {pos : Pos}
/-! ### comparisons -/
/-! ### and, or, not -/
variable {tA tB' : TT} {rest : List Expr}
def tOr (t u : TT) : TT := fun σ H Q => t σ H fun c H1 => if c = true then Q true H1 else u σ H1 Q
def tNot (t : TT) : TT := fun σ H Q => t σ H fun c H1 => Q (!c) H1
theorem pw_or1 (ha : PT X a tA) : PW X (.BoolOp .Or [a] pos) tA := by
  intro wh pins s σ H Q I h
  refine isTrue_or (thn (ha pins s σ H Q I h) fun c s1 e => ?_)
  cases c with
  | false => exact isTrue_or_nil e
  | true => exact e
theorem pw_or (ha : PT X a tA) (hb : PW X (.BoolOp .Or (b :: rest) pos) tB') : PW X (.BoolOp .Or (a :: b :: rest) pos) (tOr tA tB') := by
  intro wh pins s σ H Q I h
  refine isTrue_or (thn (ha pins s σ H _ I h) fun c s1 ⟨H1, I1, q1⟩ => ?_)
  cases c with
  | true => exact ⟨H1, I1, q1⟩
  | false => exact hb wh pins s1 σ H1 Q I1 q1
theorem pt_not (ha : PT X a tA) : PT X (.UnaryOp .Not a pos) (tNot tA) := by
  intro pins s σ H Q I h
  exact isTrue_not (ha pins s σ H (fun c H1 => Q (!c) H1) I h)
/-- .. as values (bools) -/
def tAndV (ta tb : TE) : TE := fun σ H Q => ta σ H fun x H1 => ∃ c, x = .bl c ∧ if c = true then tb σ H1 Q else Q (.bl false) H1
def tNotV (ta : TE) : TE := fun σ H Q => ta σ H fun x H1 => ∃ c, x = .bl c ∧ Q (.bl (!c)) H1
theorem pe_one {op} {t : TE} (h : PE X a t) : PE X (.BoolOp op [a] pos) t := fun pins s σ H Q I hw => BoolOp_one (h pins s σ H Q I hw)
theorem pe_and (ha : PE X a ta) (hb : PE X (.BoolOp .And (b :: rest) pos) tb) : PE X (.BoolOp .And (a :: b :: rest) pos) (tAndV ta tb) := by
  intro pins s σ H Q I h
  refine BoolOp_and (thn (ha pins s σ H _ I h) fun v s1 ⟨x, H1, I1, r1, q1⟩ => ?_)
  obtain ⟨c, rfl, q1⟩ := q1
  cases r1
  refine wpAny_truthy_bool ?_
  cases c with
  | true => exact hb pins s1 σ H1 Q I1 q1
  | false => exact ⟨.bl false, H1, I1, rfl, q1⟩
theorem pe_not (ha : PE X a ta) : PE X (.UnaryOp .Not a pos) (tNotV ta) := by
  intro pins s σ H Q I h
  refine UnaryOp_ (thn (ha pins s σ H _ I h) fun v s1 ⟨x, H1, I1, r1, q1⟩ => ?_)
  obtain ⟨c, rfl, q1⟩ := q1
  cases r1
  exact not_of (wpAny_truthy_bool ⟨.bl (!c), H1, I1, rfl, q1⟩)
end
end L2

namespace L2
open PySem PySem.Spec PyProof.Rows

/-! ### a list, a tuple that is read: tracked, frozen, or an object of the module -/
def SqL (K : PySem.W.Frag) (H : Hp) (a : Addr) (xs : List V) : Prop :=
  Rd H a (.lst xs) ∨
    ∃ (o : Obj) (its : Array Value) (n : Nat), K.lookup a = some o ∧ o.cls = .type "list" ∧ o.dict = none ∧ o.data = .seq its n ∧ its.size ≤ sizeLine ∧ Vals xs its.toList
def SqT (K : PySem.W.Frag) (H : Hp) (a : Addr) (xs : List V) : Prop :=
  Rd H a (.tup xs) ∨
    ∃ (o : Obj) (its : Array Value) (n : Nat), K.lookup a = some o ∧ o.cls = .type "tuple" ∧ o.dict = none ∧ o.data = .seq its n ∧ its.size ≤ sizeLine ∧ Vals xs its.toList
def absV : Value → Option V
  | .none => some .non
  | .bool b => some (.bl b)
  | .int i _ => some (.int i)
  | .str x _ => some (.str x)
  | .bytes b _ => some (.byt b)
  | .float b _ => some (.flt b)
  | .ref a => some (.ref a)
  | .type n => some (.ty n)
  | _ => none
theorem RelV.abs {x : V} {u : Value} (r : RelV x u) : absV u = some x := by
  cases x with
  | non => cases r; rfl
  | bl _ => cases r; rfl
  | int _ => obtain ⟨t, rfl⟩ := r; rfl
  | str _ => obtain ⟨t, rfl⟩ := r; rfl
  | byt _ => obtain ⟨t, rfl⟩ := r; rfl
  | flt _ => obtain ⟨t, rfl⟩ := r; rfl
  | ref _ => cases r; rfl
  | ty _ => cases r; rfl
theorem RelV.inj {x y : V} {u : Value} (r : RelV x u) (q : RelV y u) : x = y := Option.some.inj (r.abs.symm.trans q.abs)
theorem Vals.inj : ∀ {xs ys : List V} {us : List Value}, Vals xs us → Vals ys us → xs = ys
  | _, _, _, .nil, .nil => rfl
  | _, _, _, .cons r t, .cons r' t' => by rw [r.inj r', Vals.inj t t']
section
variable {X : Cx} {pins : List (Addr × Obj)} {σ : St} {H : Hp} {s : Shared} {a : Addr} {xs ys : List V}
theorem SqL.of {K : PySem.W.Frag} (h : H a = some (.lst xs)) : SqL K H a xs := .inl (.inl h)
theorem SqT.of {K : PySem.W.Frag} (h : H a = some (.tup xs)) : SqT K H a xs := .inl (.inl h)
theorem Inv.list (I : Inv X pins σ H s) (h : SqL X.K H a xs) : ∃ its : List Value, Vals xs its ∧ PlainL s.heap a its.toArray ∧ xs.length ≤ sizeLine := by
  rcases h with h | ⟨o, its, n, hk, hc, hd, hs, hz, r⟩
  · obtain ⟨z, its, n, r, e⟩ := h.ok I.hok
    exact ⟨its, r, ⟨_, n, e, rfl, rfl, rfl⟩, z⟩
  · refine ⟨its.toList, r, ⟨o, n, I.kIn a o hk, hc, hd, by simpa using hs⟩, ?_⟩
    have e := r.length
    simp only [Array.length_toList] at e
    omega
theorem Inv.tuple (I : Inv X pins σ H s) (h : SqT X.K H a xs) : ∃ its : List Value, Vals xs its ∧ IsTup s.heap a its.toArray ∧ xs.length ≤ sizeLine := by
  rcases h with h | ⟨o, its, n, hk, hc, _, hs, hz, r⟩
  · obtain ⟨z, its, r, p, _⟩ := h.ok I.hok
    exact ⟨its, r, p, z⟩
  · refine ⟨its.toList, r, ⟨o, I.kIn a o hk, hc, n, by simpa using hs⟩, ?_⟩
    have e := r.length
    simp only [Array.length_toList] at e
    omega
theorem Inv.list_inj (I : Inv X pins σ H s) (h : SqL X.K H a xs) (h' : SqL X.K H a ys) : xs = ys := by
  obtain ⟨its, r, ⟨o, n, e, _, _, d⟩, _⟩ := I.list h
  obtain ⟨its', r', ⟨o', n', e', _, _, d'⟩, _⟩ := I.list h'
  rw [e] at e'; cases e'
  rw [d] at d'
  injection d' with d1 _
  have : its = its' := by simpa using congrArg Array.toList d1
  subst this
  exact r.inj r'
theorem Inv.tuple_inj (I : Inv X pins σ H s) (h : SqT X.K H a xs) (h' : SqT X.K H a ys) : xs = ys := by
  obtain ⟨its, r, ⟨o, e, _, n, d⟩, _⟩ := I.tuple h
  obtain ⟨its', r', ⟨o', e', _, n', d'⟩, _⟩ := I.tuple h'
  rw [e] at e'; cases e'
  rw [d] at d'
  injection d' with d1 _
  have : its = its' := by simpa using congrArg Array.toList d1
  subst this
  exact r.inj r'
end

/-! ### another wish about exceptions -/
abbrev Cx.wish (X : Cx) (E : Value → Shared → Prop) : Cx := { X with xe := E }
/-- no exception leaves -/
abbrev Cx.nox (X : Cx) : Cx := X.wish fun _ _ => False
theorem Cx.Ok.wish {X : Cx} (ok : X.Ok) (E : Value → Shared → Prop) : (X.wish E).Ok :=
  ⟨ok.mod, ok.kind, ok.glob, ok.blt, ok.above, ok.inj, ok.has, ok.cab, ok.hd, ok.frames, ok.stk, ok.exf, ok.bs, ok.bsz, ok.noex, ok.exfs, ok.funs, ok.frf⟩
theorem Cx.Ok.unwish {X : Cx} {E : Value → Shared → Prop} (ok : (X.wish E).Ok) : X.Ok :=
  ⟨ok.mod, ok.kind, ok.glob, ok.blt, ok.above, ok.inj, ok.has, ok.cab, ok.hd, ok.frames, ok.stk, ok.exf, ok.bs, ok.bsz, ok.noex, ok.exfs, ok.funs, ok.frf⟩
section
variable {X : Cx} {pins : List (Addr × Obj)} {σ : St} {H : Hp} {s : Shared} {E : Value → Shared → Prop}
theorem Inv.wish (I : Inv X pins σ H s) (E : Value → Shared → Prop) : Inv (X.wish E) pins σ H s := ⟨I.ok.wish E, I.os, I.bare, I.base, I.loc, I.cell, I.free, I.freeC, I.pin, I.hok, I.len⟩
theorem Inv.unwish (I : Inv (X.wish E) pins σ H s) : Inv X pins σ H s := ⟨I.ok.unwish, I.os, I.bare, I.base, I.loc, I.cell, I.free, I.freeC, I.pin, I.hok, I.len⟩
theorem SP.unwish {D : Ends} {f : Flow} {s' : Shared} (h : SP (X.wish E) pins D f s') : SP X pins D f s' := by
  cases f with
  | next => obtain ⟨σ', H', I, q⟩ := h; exact ⟨σ', H', I.unwish, q⟩
  | brk => obtain ⟨σ', H', I, q⟩ := h; exact ⟨σ', H', I.unwish, q⟩
  | cont => obtain ⟨σ', H', I, q⟩ := h; exact ⟨σ', H', I.unwish, q⟩
  | ret u => obtain ⟨v, σ', H', I, r, q⟩ := h; exact ⟨v, σ', H', I.unwish, r, q⟩
theorem PE.nox {e : Expr} {t : TE} (h : PE X.nox e t) : PE X e t := fun pins s σ H Q I hw =>
  wpAny_mono (h pins s σ H Q (I.wish _) hw) (fun _ _ ⟨v, H', I', r, q⟩ => ⟨v, H', I'.unwish, r, q⟩) fun _ _ z => False.elim z
theorem PT.nox {e : Expr} {t : TT} (h : PT X.nox e t) : PT X e t := fun pins s σ H Q I hw =>
  wpAny_mono (h pins s σ H Q (I.wish _) hw) (fun _ _ ⟨H', I', q⟩ => ⟨H', I'.unwish, q⟩) fun _ _ z => False.elim z
theorem PSs.nox {st : List Stmt} {t : TS} (h : PSs X.nox st t) : PSs X st t := fun pins s σ H D I hw =>
  wpAny_mono (h pins s σ H D (I.wish _) hw) (fun _ _ q => q.unwish) fun _ _ z => False.elim z
end

/-! ### blocks and small statements -/
section
variable {X : Cx} {st : Stmt} {rest : List Stmt} {t u : TS} {e : Expr} {te : TE} {pos : Pos}
def tNext : TS := fun D σ H => D.nx σ H
def tSeq (t u : TS) : TS := fun D σ H => t { D with nx := u D } σ H
theorem pss_nil : PSs X [] tNext := fun _ _ σ H _ I h => wpAny_execs_nil ⟨σ, H, I, h⟩
theorem pss_cons (h1 : PS X st t) (h2 : PSs X rest u) : PSs X (st :: rest) (tSeq t u) := by
  intro pins s σ H D I h
  refine wpAny_execs_cons (thn (h1 pins s σ H { D with nx := u D } I h) fun f s1 q => ?_)
  cases f with
  | next =>
    obtain ⟨σ', H', I', q⟩ := q
    exact h2 pins s1 σ' H' D I' q
  | ret v => exact q
  | brk => exact q
  | cont => exact q
theorem pss_one (h1 : PS X st t) : PSs X [st] t := by
  intro pins s σ H D I h
  refine wpAny_execs_cons (thn (h1 pins s σ H D I h) fun f s1 q => ?_)
  cases f with
  | next => exact wpAny_execs_nil q
  | ret v => exact q
  | brk => exact q
  | cont => exact q
/-- in a def's body nothing is shown -/
theorem Inv.quiet {pins : List (Addr × Obj)} {σ : St} {H : Hp} {s : Shared} (I : Inv X pins σ H s) : interactive X.env = false := by simp [interactive, I.ok.kind]
/-- an expression whose value is dropped -/
def tDrop (te : TE) : TS := fun D σ H => te σ H fun _ H1 => D.nx σ H1
theorem ps_expr (he : PE X e te) (hs : swapsWith e none pos.line X.env = pure false := by rfl) : PS X (.Expr e pos) (tDrop te) := by
  intro pins s σ H D I h
  exact wpAny_Expr_any (thn (he pins s σ H _ I h) fun v s1 ⟨x, H1, I1, r1, q1⟩ => ⟨σ, H1, I1, q1⟩) I.quiet hs
def tRet (te : TE) : TS := fun D σ H => te σ H D.rt
theorem ps_ret (he : PE X e te) : PS X (.Return (some e) pos) (tRet te) := by
  intro pins s σ H D I h
  exact wpAny_Return_some (thn (he pins s σ H _ I h) fun v s1 ⟨x, H1, I1, r1, q1⟩ => ⟨x, σ, H1, I1, r1, q1⟩)
def tIfS (c : TT) (t u : TS) : TS := fun D σ H => c σ H fun b H1 => if b = true then t D σ H1 else u D σ H1
theorem ps_if {c : Expr} {a b : List Stmt} {tc : TT} (hc : PT X c tc) (ha : PSs X a t) (hb : PSs X b u) : PS X (.If c a b pos) (tIfS tc t u) := by
  intro pins s σ H D I h
  refine wpAny_If (thn (hc pins s σ H _ I h) fun d s1 ⟨H1, I1, q1⟩ => ?_)
  cases d with
  | true => exact ha pins s1 σ H1 D I1 q1
  | false => exact hb pins s1 σ H1 D I1 q1
end

/-! ### targets -/
abbrev TG := V → St → Hp → (St → Hp → Prop) → Prop
abbrev TGs := List V → St → Hp → (St → Hp → Prop) → Prop
def PG (X : Cx) (target : Expr) (t : TG) : Prop :=
  ∀ (pins : List (Addr × Obj)) (s : Shared) (σ : St) (H : Hp) (v : V) (u : Value) (Q : St → Hp → Prop), Inv X pins σ H s → RelV v u → t v σ H Q →
    wpAny (model X.prog X.w) X.A (assign target X.env u) (fun _ s' => ∃ σ' H', Inv X pins σ' H' s' ∧ Q σ' H') X.xe s
/-- several targets, one after another -/
def PGs (X : Cx) (ts : List Expr) (t : TGs) : Prop :=
  ∀ (pins : List (Addr × Obj)) (s : Shared) (σ : St) (H : Hp) (vs : List V) (us : List Value) (Q : St → Hp → Prop), Inv X pins σ H s → Vals vs us → t vs σ H Q →
    wpAny (model X.prog X.w) X.A (assignInOrder ((assignEach ts X.env).map (·.2)) us) (fun _ s' => ∃ σ' H', Inv X pins σ' H' s' ∧ Q σ' H') X.xe s
/-- o[i] = v, by values -/
abbrev TSet := V → V → V → Hp → (Hp → Prop) → Prop
def PSet (X : Cx) (t : TSet) : Prop :=
  ∀ (pins : List (Addr × Obj)) (s : Shared) (σ : St) (H : Hp) (o i v : V) (ov iv u : Value) (Q : Hp → Prop), Inv X pins σ H s → RelV o ov → RelV i iv → RelV v u → t o i v H Q →
    wpAny (model X.prog X.w) X.A (setItem ov iv u) (fun _ s' => ∃ H', Inv X pins σ H' s' ∧ Q H') X.xe s
section
variable {X : Cx} {pos : Pos}
def gName (i : Nat) : TG := fun v σ H Q => Q (σ.set i (some v)) H
theorem pg_name {i : Nat} {x : Str} (hN : X.N.Nodup) (hi : X.N[i]? = some x) (hx : Loc X.env.scope x) (hf : X.fn x = true ∨ X.env.scope.names.lookup x = some .local := by first | exact .inl rfl | exact .inr rfl | assumption) : PG X (.Name x pos) (gName i) := by
  intro pins s σ H v u Q I r h
  exact wpAny_assign_Name (store_ok I hN hi hx r (fun s' I' => ⟨_, H, I', h⟩) hf)
def gNil : TGs := fun vs σ H Q => vs = [] ∧ Q σ H
def gCons (t : TG) (u : TGs) : TGs := fun vs σ H Q => ∃ v r, vs = v :: r ∧ t v σ H fun σ' H' => u r σ' H' Q
theorem pgs_nil : PGs X [] gNil := by
  intro pins s σ H vs us Q I r h
  obtain ⟨e, h⟩ := h
  subst e
  cases r
  exact assignInOrder_nil ⟨σ, H, I, h⟩
theorem pgs_cons {e : Expr} {es : List Expr} {t : TG} {u : TGs} (h1 : PG X e t) (h2 : PGs X es u)
    (hs : (assignEach (e :: es) X.env).map (·.2) = assign e X.env :: (assignEach es X.env).map (·.2) := by rfl) : PGs X (e :: es) (gCons t u) := by
  intro pins s σ H vs us Q I r h
  obtain ⟨v, vr, e1, h⟩ := h
  subst e1
  cases r with
  | cons r rr =>
    rw [hs]
    refine assignInOrder_cons (thn (h1 pins s σ H _ _ _ I r h) fun _ s1 ⟨σ1, H1, I1, q1⟩ => ?_)
    exact h2 pins s1 σ1 H1 _ _ Q I1 rr q1
/-- (a, b, ..) = a tuple of that length -/
def gTup (K : PySem.W.Frag) (n : Nat) (t : TGs) : TG := fun v σ H Q => ∃ a xs, v = .ref a ∧ SqT K H a xs ∧ xs.length = n ∧ t xs σ H Q
theorem pg_tup {es : List Expr} {k : Nat} {t : TGs} {n : Nat} (hc : X.calm = true) (h : PGs X es t)
    (hn : (assignEach es X.env).length = n := by rfl) (hst : (assignEach es X.env).findIdx? (·.1) = none := by rfl) : PG X (.Tuple es k pos) (gTup X.K n t) := by
  intro pins s σ H v u Q I r hw
  obtain ⟨a, xs, e1, hq, hl, hw⟩ := hw
  subst e1
  cases r
  obtain ⟨its, rv, ht, hz⟩ := I.tuple hq
  refine assign_Tuple_tuple (I.ok.hd hc) ht (by simp [hn, ← hl, rv.length]) hst fun h' hx => ?_
  have I1 : Inv X pins σ H { s with heap := h' } := I.kept (t' := s.toks) fun b o e => hx b o (Nat.ne_of_lt (Heap.lt_size e)) e
  exact h pins _ σ H xs _ Q I1 (by simpa using rv) hw
/-- o[i] = .. -/
def gSub (to ti : TE) (t : TSet) : TG := fun v σ H Q => to σ H fun o H1 => ti σ H1 fun i H2 => t o i v H2 fun H3 => Q σ H3
theorem pg_sub {o i : Expr} {to ti : TE} {t : TSet} (ho : PE X o to) (hi : PE X i ti) (hs : PSet X t)
    (ha : ∀ v, assign (.Subscript o i pos) X.env v = (do
      let ov ← holding [v] (eval o X.env)
      let iv ← holding [v, ov] (eval i X.env)
      standAt pos
      holding [v, ov, iv] (setItem ov iv v)
      release [v, ov, iv] []) := by intro _; rfl) : PG X (.Subscript o i pos) (gSub to ti t) := by
  intro pins s σ H v u Q I r h
  rw [ha]
  refine wpAny_bind (wpAny_holding (thn (ho pins s σ H _ I h) fun ov s1 ⟨x, H1, I1, r1, q1⟩ => ?_))
  refine wpAny_bind (wpAny_holding (thn (hi pins s1 σ H1 _ I1 q1) fun iv s2 ⟨y, H2, I2, r2, q2⟩ => ?_))
  refine wpAny_bind (wpAny_standAt (wpAny_bind (wpAny_holding (thn (hs pins s2 σ H2 x y v ov iv u _ I2 r1 r2 r q2) fun _ s3 ⟨H3, I3, q3⟩ => ?_))))
  exact wpAny_release ⟨σ, H3, I3, q3⟩
/-- target = value -/
def tAsg (te : TE) (g : TG) : TS := fun D σ H => te σ H fun x H1 => g x σ H1 D.nx
theorem ps_asg {tg e : Expr} {te : TE} {g : TG} (he : PE X e te) (hg : PG X tg g) (hs : swapsWithSole [tg] e pos.line X.env = pure false := by rfl) (hw : swappedStores [tg] e X.env = pure none := by rfl)
    (h1 : (assignEach [tg] X.env).map (·.2) = [assign tg X.env] := by rfl) : PS X (.Assign [tg] e pos) (tAsg te g) := by
  intro pins s σ H D I h
  refine wpAny_Assign_stores (thn (he pins s σ H _ I h) fun v s1 ⟨x, H1, I1, r1, q1⟩ => ?_) hs hw
  rw [h1]
  exact thn (hg pins s1 σ H1 x v _ I1 r1 q1) fun _ s2 q => q
/-- name = value -/
theorem ps_set {i : Nat} {x : Str} {e : Expr} {te : TE} {pos' : Pos} (hN : X.N.Nodup) (hi : X.N[i]? = some x) (hx : Loc X.env.scope x) (he : PE X e te) (hs : swapsWith e (some (.Name x pos')) pos.line X.env = pure false := by rfl) (hf : X.fn x = true ∨ X.env.scope.names.lookup x = some .local := by first | exact .inl rfl | exact .inr rfl | assumption) :
    PS X (.Assign [.Name x pos'] e pos) (tAsg te (gName i)) := by
  intro pins s σ H D I h
  refine wpAny_Assign_Name (thn (he pins s σ H _ I h) fun v s1 ⟨y, H1, I1, r1, q1⟩ => ?_) hs
  exact store_ok I1 hN hi hx r1 (fun s2 I2 => ⟨_, H1, I2, q1⟩) hf
end

/-! ### while -/
section
variable {X : Cx} {pos : Pos}
end

/-! ### what a loop or a comprehension walks -/
/-- at turn i: it yields x (the heap may grow), or it stops -/
structure It where
  go : Nat → Hp → Prop
  yld : Nat → Hp → V → Hp → Prop
  stop : Nat → Hp → Prop
/-- the iterator's own objects may turn: they are not the frame's, not pinned, younger than the entry (or a comprehension's own) -/
def FpOk (X : Cx) (pins : List (Addr × Obj)) (H : Hp) (b : Addr) : Prop :=
  H b = none ∧ b ≠ X.env.locals ∧ b ∉ X.fs ∧ (b ∈ X.ex ∨ X.s_0.heap.objs.size ≤ b) ∧ (∀ x c, X.env.cells.lookup x = some c → c ≠ b) ∧ ∀ p ∈ X.pn ++ pins, p.1 ≠ b
theorem Inv.fpOk {X : Cx} {pins : List (Addr × Obj)} {σ : St} {H H' : Hp} {s : Shared} {b : Addr} (I : Inv X pins σ H s) (hb : s.heap.objs.size ≤ b) (hn : H' b = none) : FpOk X pins H' b := by
  refine ⟨hn, Nat.ne_of_gt (Nat.lt_of_lt_of_le I.lt hb), I.nofs hb, .inr (Nat.le_trans I.sz hb), fun x c e z => ?_, fun p hp z => ?_⟩
  · obtain ⟨v, q⟩ := I.cell x c e
    exact absurd (Nat.lt_of_lt_of_le q.lt (by rw [z]; exact hb)) (Nat.lt_irrefl _)
  · exact absurd (Nat.lt_of_lt_of_le (Heap.lt_size (I.pin p hp).1) (by rw [z]; exact hb)) (Nat.lt_irrefl _)
structure Turn (P : Program) (w : World) (K : PySem.W.Frag) (tg : Expr) (J : It) (fp : List Addr) (it : Addr) (tn : Nat → Heap → Prop) : Prop where
  mem : it ∈ fp
  obj : ∀ i h, tn i h → ∀ b ∈ fp, ∃ o, h.get? b = some o ∧ ∀ v, o.data ≠ .cell v
  keep : ∀ i h h', tn i h → (∀ b ∈ fp, ∀ o, h.get? b = some o → h'.get? b = some o) → tn i h'
  item : ∀ (X : Cx), X.prog = P → X.w = w → X.K = K → X.calm = true → ∀ (i : Nat) (pins : List (Addr × Obj)) (s : Shared) (σ : St) (H : Hp) (E : Value → Shared → Prop), Inv X pins σ H s → (∀ b ∈ fp, FpOk X pins H b) → tn i s.heap → J.go i H →
    wpAny (model P w) X.A (pyNext (.ref it)) (fun r s1 => ∃ u, r = some u ∧
      wpAny (model P w) X.A (letOwnedTupleGo tg (.ref it) u) (fun _ s2 => ∃ x H', Inv X pins σ H' s2 ∧ RelV x u ∧ J.yld i H x H' ∧ tn (i + 1) s2.heap ∧ ∀ b ∈ fp, H' b = none) E s1) E s
  done : ∀ (X : Cx), X.prog = P → X.w = w → X.K = K → X.calm = true → ∀ (i : Nat) (pins : List (Addr × Obj)) (s : Shared) (σ : St) (H : Hp) (E : Value → Shared → Prop), Inv X pins σ H s → (∀ b ∈ fp, FpOk X pins H b) → tn i s.heap → J.stop i H →
    wpAny (model P w) X.A (pyNext (.ref it)) (fun r s1 => r = none ∧ Inv X pins σ H s1) E s
  self : ∀ (A : Around) (i : Nat) (s : Shared) (Q : Value → Shared → Prop) (E : Value → Shared → Prop), tn i s.heap → Q (.ref it) s → wpAny (model P w) A (pyIter (.ref it)) Q E s
abbrev TI := St → Hp → (It → Hp → Prop) → Prop
/-- an iterator has come -/
def PIE (X : Cx) (pins : List (Addr × Obj)) (σ : St) (tg : Expr) (R : It → Hp → Prop) (itv : Value) (s2 : Shared) : Prop :=
  ∃ (it : Addr) (fp : List Addr) (tn : Nat → Heap → Prop) (J : It) (H' : Hp), itv = .ref it ∧ Inv X pins σ H' s2 ∧ Turn X.prog X.w X.K tg J fp it tn ∧ tn 0 s2.heap ∧ (∀ b ∈ fp, FpOk X pins H' b) ∧ R J H'
def PI (X : Cx) (tg iter : Expr) (wi : TI) : Prop :=
  ∀ (pins : List (Addr × Obj)) (s : Shared) (σ : St) (H : Hp) (R : It → Hp → Prop), Inv X pins σ H s → wi σ H R →
    wpAny (model X.prog X.w) X.A (eval iter X.env) (fun v s1 => wpAny (model X.prog X.w) X.A (pyIter v) (PIE X pins σ tg R) X.xe s1) X.xe s

/-- the step ahead of the store is nothing for an iterator that keeps no tuple -/
theorem go_of {M : Model} {A : Around} {E : Value → Shared → Prop} {s : Shared} {tg : Expr} {it : Addr} {u : Value} {o : Obj} {n : String} {vs : Array Value} {Q : Unit → Shared → Prop} (ho : s.heap.get? it = some o) (hc : o.cls = .type n) (hd : o.data = .fields vs)
    (hn : ["enumerate", "zip", "dict_itemiterator", "dict_reverseitemiterator", "odict_iterator", "itertools.zip_longest", "itertools.pairwise"].contains n = false) (hQ : Q () s) : wpAny M A (letOwnedTupleGo tg (.ref it) u) Q E s := by
  unfold letOwnedTupleGo
  cases tg <;> first
    | exact wpAny_pure hQ
    | (cases u <;> first
        | exact wpAny_pure hQ
        | (refine wpAny_bind (wpAny_load ho ?_)
           rw [hc, hd]
           show wpAny M A (if (["enumerate", "zip", "dict_itemiterator", "dict_reverseitemiterator", "odict_iterator", "itertools.zip_longest", "itertools.pairwise"].contains n && vs[0]? == some (rawInt _)) = true then _ else _) Q E s
           rw [if_neg (by intro h; rw [hn, Bool.false_and] at h; cases h)]
           exact wpAny_pure hQ))

/-- the list at a, as it stands at each turn (a loop may append to it) -/
def Itl (K : PySem.W.Frag) (a : Addr) : It :=
  ⟨fun i H => ∃ xs x, SqL K H a xs ∧ xs[i]? = some x, fun i H x H' => H' = H ∧ ∀ xs, SqL K H a xs → xs[i]? = some x, fun i H => ∃ xs, SqL K H a xs ∧ xs.length ≤ i⟩
def Itt (K : PySem.W.Frag) (a : Addr) : It :=
  ⟨fun i H => ∃ xs x, SqT K H a xs ∧ xs[i]? = some x, fun i H x H' => H' = H ∧ ∀ xs, SqT K H a xs → xs[i]? = some x, fun i H => ∃ xs, SqT K H a xs ∧ xs.length ≤ i⟩
/-- lo, lo + 1, .. (n of them) -/
def Itr (lo : Int) (n : Nat) : It := ⟨fun i _ => i < n, fun i H x H' => H' = H ∧ x = .int (lo + i), fun i _ => n ≤ i⟩
theorem turn_list {P : Program} {w : World} {K : PySem.W.Frag} {tg : Expr} (a it : Addr) : Turn P w K tg (Itl K a) [it] it (fun i h => h.IsListIter it a i) where
  mem := by simp
  obj := fun i h st b hb => by
    have e : b = it := by simpa using hb
    subst e
    obtain ⟨o, e, c, d⟩ := st
    exact ⟨o, e, fun v z => by rw [d] at z; cases z⟩
  keep := fun i h h' st k => st.at fun o e => k it (by simp) o e
  item := by
    intro X hP hw hK hc i pins s σ H E I hf st hg
    subst hP hw hK
    obtain ⟨xs, x, hq, hx⟩ := hg
    obtain ⟨its, rv, p, hz⟩ := I.list hq
    obtain ⟨u, hu, ru⟩ := rv.get hx
    obtain ⟨f0, f1, f2, f3, f4, f5⟩ := hf it (by simp)
    refine wpAny_pyNext_list_item st p.isList (x := u) (by simpa using hu) fun h' st' sb => ?_
    have I1 : Inv X pins σ H { s with heap := h' } := I.turned (t' := s.toks) (fun b o hb e => (sb.2 b hb).trans e) f0 f1 f3 f4 f5
    obtain ⟨o, e, c, d⟩ := id st'
    exact ⟨u, rfl, go_of (s := { s with heap := h' }) e c d (by decide) ⟨x, H, I1, ru, ⟨rfl, fun ys hy => by rw [I.list_inj hy hq]; exact hx⟩, st', fun b hb => (hf b hb).1⟩⟩
  done := by
    intro X hP hw hK hc i pins s σ H E I hf st hg
    subst hP hw hK
    obtain ⟨xs, hq, hx⟩ := hg
    obtain ⟨its, rv, p, hz⟩ := I.list hq
    obtain ⟨f0, f1, f2, f3, f4, f5⟩ := hf it (by simp)
    have hl := rv.length
    exact wpAny_pyNext_list_end (I.ok.hd hc) st p.isList (by simp; omega) fun h' eb => ⟨rfl, I.turned (t' := s.toks) (fun b o hb e => eb b o hb e) f0 f1 f3 f4 f5⟩
  self := fun _ _ _ _ _ st h => wpAny_pyIter_listiter st h
theorem turn_tuple {P : Program} {w : World} {K : PySem.W.Frag} {tg : Expr} (a it : Addr) : Turn P w K tg (Itt K a) [it] it (fun i h => h.IsTupleIter it a i) where
  mem := by simp
  obj := fun i h st b hb => by
    have e : b = it := by simpa using hb
    subst e
    obtain ⟨o, e, c, d⟩ := st
    exact ⟨o, e, fun v z => by rw [d] at z; cases z⟩
  keep := fun i h h' st k => st.at fun o e => k it (by simp) o e
  item := by
    intro X hP hw hK hc i pins s σ H E I hf st hg
    subst hP hw hK
    obtain ⟨xs, x, hq, hx⟩ := hg
    obtain ⟨its, rv, p, hz⟩ := I.tuple hq
    obtain ⟨u, hu, ru⟩ := rv.get hx
    obtain ⟨f0, f1, f2, f3, f4, f5⟩ := hf it (by simp)
    refine wpAny_pyNext_tuple_item st (show s.heap.IsTuple a its.toArray from p) (x := u) (by simpa using hu) fun h' st' sb => ?_
    have I1 : Inv X pins σ H { s with heap := h' } := I.turned (t' := s.toks) (fun b o hb e => (sb.2 b hb).trans e) f0 f1 f3 f4 f5
    obtain ⟨o, e, c, d⟩ := id st'
    exact ⟨u, rfl, go_of (s := { s with heap := h' }) e c d (by decide) ⟨x, H, I1, ru, ⟨rfl, fun ys hy => by rw [I.tuple_inj hy hq]; exact hx⟩, st', fun b hb => (hf b hb).1⟩⟩
  done := by
    intro X hP hw hK hc i pins s σ H E I hf st hg
    subst hP hw hK
    obtain ⟨xs, hq, hx⟩ := hg
    obtain ⟨its, rv, p, hz⟩ := I.tuple hq
    obtain ⟨f0, f1, f2, f3, f4, f5⟩ := hf it (by simp)
    have hl := rv.length
    exact wpAny_pyNext_tuple_end (I.ok.hd hc) st (show s.heap.IsTuple a its.toArray from p) (by simp; omega) fun h' eb => ⟨rfl, I.turned (t' := s.toks) (fun b o hb e => eb b o hb e) f0 f1 f3 f4 f5⟩
  self := fun _ _ _ _ _ st h => wpAny_pyIter_tupleiter st h
theorem turn_range {P : Program} {w : World} {K : PySem.W.Frag} {tg : Expr} (it : Addr) (lo : Int) (n : Nat) : Turn P w K tg (Itr lo n) [it] it (fun i h => IsRangeIter h it (lo + (i : Nat) * 1) ((n : Int) - (i : Nat)) 1) where
  mem := by simp
  obj := fun i h st b hb => by
    have e : b = it := by simpa using hb
    subst e
    exact ⟨_, st, fun v z => by
      have z' : Data.fields _ = Data.cell v := z
      cases z'⟩
  keep := fun i h h' st k => k it (by simp) _ st
  item := by
    intro X hP hw hK hc i pins s σ H E I hf st hg
    subst hP hw hK
    obtain ⟨f0, f1, f2, f3, f4, f5⟩ := hf it (by simp)
    have W := Walks.range (prog := X.prog) (w := X.w) (I.ok.hd hc) it lo 1 n
    refine W.item i s _ _ hg st fun v h' tk hv st' kk => ?_
    obtain ⟨t, rfl⟩ := hv
    have I1 : Inv X pins σ H { s with heap := h', toks := tk } := I.turned (fun b o hb e => kk b o (by simpa using hb) e) f0 f1 f3 f4 f5
    refine ⟨_, rfl, go_of (s := { s with heap := h', toks := tk }) (n := "range_iterator") st' rfl rfl (by decide) ⟨.int (lo + i), H, I1, ⟨t, ?_⟩, ⟨rfl, rfl⟩, st', fun b hb => (hf b hb).1⟩⟩
    rw [Int.mul_one]
  done := by
    intro X hP hw hK hc i pins s σ H E I hf st hg
    subst hP hw hK
    obtain ⟨f0, f1, f2, f3, f4, f5⟩ := hf it (by simp)
    exact wpAny_pyNext_range_end (I.ok.hd hc) st (by have : n ≤ i := hg; omega) fun h' eb => ⟨rfl, I.turned (t' := s.toks) (fun b o hb e => eb b o hb e) f0 f1 f3 f4 f5⟩
  self := fun _ _ _ _ _ st h => wpAny_pyIter_rangeiter st h
end L2

namespace L2
open PySem PySem.Spec PyProof.Rows
section
variable {X : Cx} {tg : Expr}
/-- a range object just made, walked -/
theorem range_it {pins : List (Addr × Obj)} {σ : St} {H : Hp} {s : Shared} {R : It → Hp → Prop} {E : Value → Shared → Prop} {lo hi : Int} {t u v : Tok} {tk : Nat} (I : Inv X pins σ H s) (h1 : -(2 ^ 62) ≤ lo) (h2 : lo < 2 ^ 62) (h3 : -(2 ^ 62) ≤ hi) (h4 : hi < 2 ^ 62)
    (q : R (Itr lo (hi - lo).toNat) H) : wpAny (model X.prog X.w) X.A (pyIter (.ref s.heap.objs.size)) (PIE X pins σ tg R) E { s with heap := s.heap.push { cls := .type "range", data := .fields #[.int lo t, .int hi u, .int 1 v] }, toks := tk } := by
  refine wpAny_pyIter_range (IsRange.new ..) (small_one h1 h2 h3 h4) ?_
  have I1 : Inv X pins σ H { s with heap := s.heap.push { cls := .type "range", data := .fields #[.int lo t, .int hi u, .int 1 v] }, toks := tk } := I.kept fun b o e => Heap.get?_push_of_some _ e
  refine ⟨(s.heap.push { cls := .type "range", data := .fields #[.int lo t, .int hi u, .int 1 v] }).objs.size, [(s.heap.push { cls := .type "range", data := .fields #[.int lo t, .int hi u, .int 1 v] }).objs.size], _, _, H, rfl,
    I1.kept (t' := tk) fun b o e => Heap.get?_push_of_some _ e, turn_range _ lo (hi - lo).toNat, ?_, fun b hb => ?_, q⟩
  · have e1 : lo + ((0 : Nat) : Int) * 1 = lo := by simp
    have e2 : (((hi - lo).toNat : Nat) : Int) - ((0 : Nat) : Int) = Builtin.Range.rangeSize lo hi 1 := by rw [rangeSize_one]; split <;> omega
    show IsRangeIter _ _ (lo + ((0 : Nat) : Int) * 1) ((((hi - lo).toNat : Nat) : Int) - ((0 : Nat) : Int)) 1
    rw [e1, e2]
    exact Heap.get?_push_size _ rfl
  · have e : b = (s.heap.push { cls := .type "range", data := .fields #[.int lo t, .int hi u, .int 1 v] }).objs.size := by simpa using hb
    subst e
    exact I1.fpOk (Nat.le_refl _) (I1.hok.fresh (Nat.le_refl _))
def iRng1 (ta : TA) : TI := fun σ H R => ta σ H fun vs H1 => ∃ j : Int, vs = [.int j] ∧ -(2 ^ 62) ≤ j ∧ j < 2 ^ 62 ∧ R (Itr 0 j.toNat) H1
def iRng2 (ta : TA) : TI := fun σ H R => ta σ H fun vs H1 => ∃ i j : Int, vs = [.int i, .int j] ∧ (-(2 ^ 62) ≤ i ∧ i < 2 ^ 62 ∧ -(2 ^ 62) ≤ j ∧ j < 2 ^ 62) ∧ R (Itr i (j - i).toNat) H1
theorem pi_range1 {a : Expr} {ta : TA} {p pos : Pos} (hg : Gl X "range") (hm : X.mg "range" = none) (ha : PA X [a] ta) (hs : starEach [a] X.env = [(false, eval a X.env)] := by rfl) : PI X tg (.Call (.Name "range" p) [a] [] pos) (iRng1 ta) := by
  intro pins s σ H R I h
  refine Call_ (ld_blt I hg hm boot_range (PyProof.Rows.callWith_type1 (thn (ha pos pins s σ H _ I h) fun us s1 ⟨vs, H1, I1, r1, q1⟩ => ?_) hs rfl))
  obtain ⟨j, e, q1, q2, q⟩ := q1
  subst e
  cases r1 with
  | cons r rr =>
    cases rr
    obtain ⟨t, rfl⟩ := r
    exact call_range_1 (range_it I1 (by omega) (by omega) q1 q2 (by simpa using q))
theorem pi_range2 {a b : Expr} {ta : TA} {p pos : Pos} (hg : Gl X "range") (hm : X.mg "range" = none) (ha : PA X [a, b] ta) (hs : starEach [a, b] X.env = [(false, eval a X.env), (false, eval b X.env)] := by rfl) (hs2 : starEach [b] X.env = [(false, eval b X.env)] := by rfl) :
    PI X tg (.Call (.Name "range" p) [a, b] [] pos) (iRng2 ta) := by
  intro pins s σ H R I h
  refine Call_ (ld_blt I hg hm boot_range (PyProof.Rows.callWith_type1 (thn (ha pos pins s σ H _ I h) fun us s1 ⟨vs, H1, I1, r1, q1⟩ => ?_) (by rw [hs, hs2]) (by rw [hs2]; rfl)))
  obtain ⟨i, j, e, ⟨q1, q2, q3, q4⟩, q⟩ := q1
  subst e
  cases r1 with
  | cons r rr =>
    cases rr with
    | cons r' rr =>
      cases rr
      obtain ⟨t, rfl⟩ := r
      obtain ⟨t', rfl⟩ := r'
      exact call_range_2 (range_it I1 q1 q2 q3 q4 q)

/-! ### for -/
/-- W: the invariant by the turn and a measure; N: what the body is to reach -/
def tFor (wi : TI) (g : TG) (tb : TS) : TS := fun D σ H => wi σ H fun J H1 => ∃ W : Nat → Nat → St → Hp → Prop, (∃ m, W 0 m σ H1) ∧ ∀ i m σ H, W i m σ H →
  (J.stop i H ∧ D.nx σ H) ∨ (J.go i H ∧ ∃ N : St → Hp → Prop, (∀ σ' H', N σ' H' → ∃ m', m' < m ∧ W (i + 1) m' σ' H') ∧ ∀ x H', J.yld i H x H' → g x σ H' fun σ2 H2 => tb { D with nx := N, ct := N, bk := D.nx } σ2 H2)
/-- the records at fp as they stand -/
def pinsAt (fp : List Addr) (h : Heap) : List (Addr × Obj) := fp.filterMap fun b => (h.get? b).map fun o => (b, o)
theorem mem_pinsAt {fp : List Addr} {h : Heap} {b : Addr} {o : Obj} (hb : b ∈ fp) (e : h.get? b = some o) : (b, o) ∈ pinsAt fp h := List.mem_filterMap.mpr ⟨b, hb, by rw [e]; rfl⟩
theorem of_pinsAt {fp : List Addr} {h : Heap} {p : Addr × Obj} (hp : p ∈ pinsAt fp h) : p.1 ∈ fp ∧ h.get? p.1 = some p.2 := by
  obtain ⟨b, hb, e⟩ := List.mem_filterMap.mp hp
  cases q : h.get? b with
  | none => rw [q] at e; cases e
  | some o =>
    rw [q] at e
    have e' : (b, o) = p := Option.some.inj e
    subst e'
    exact ⟨hb, q⟩
theorem Inv.pinned {pins : List (Addr × Obj)} {σ : St} {H : Hp} {s : Shared} {fp : List Addr} (I : Inv X pins σ H s) (hf : ∀ b ∈ fp, FpOk X pins H b) (ho : ∀ b ∈ fp, ∃ o, s.heap.get? b = some o ∧ ∀ v, o.data ≠ .cell v) : Inv X (pins ++ pinsAt fp s.heap) σ H s :=
  I.pins_of fun p hp => (List.mem_append.mp hp).elim (fun z => I.pin p (List.mem_append_right _ z)) fun z => by
    obtain ⟨hb, e⟩ := of_pinsAt z
    obtain ⟨f0, f1, f2, _⟩ := hf p.1 hb
    obtain ⟨o, e', d⟩ := ho p.1 hb
    rw [e] at e'; cases e'
    exact ⟨e, f0, f1, f2, d⟩
theorem Inv.unpinned {pins pl : List (Addr × Obj)} {σ : St} {H : Hp} {s : Shared} (I : Inv X (pins ++ pl) σ H s) : Inv X pins σ H s := I.pins_of fun p hp => I.pin p (List.mem_append_right _ (List.mem_append_left _ hp))
theorem ps_for {iter : Expr} {body : List Stmt} {wi : TI} {g : TG} {tb : TS} {pos : Pos} (hp : PassesOwn (model X.prog X.w) X.A X.env X.xe) (hc : X.calm = true) (hi : PI X tg iter wi) (hg : PG X tg g) (hb : PSs X body tb)
    (hs : ∀ x, foldedSetIterable iter X.env x = pure x := by intro _; rfl) : PS X (.For tg iter body [] pos) (tFor wi g tb) := by
  intro pins s σ H D I h
  refine wpAny_For (thn (hi pins s σ H _ I h) fun v s1 h1 => thn h1 fun itv s2 h2 => ?_) hs
  obtain ⟨it, fp, tn, J, H2, e, I2, T, st2, f2, W, ⟨m0, w0⟩, turn⟩ := h2
  subst e
  -- what stays true of the iterator's objects through the loop
  have stat : ∀ {H' : Hp}, (∀ b ∈ fp, H' b = none) → ∀ b ∈ fp, FpOk X pins H' b := fun hn b hb => ⟨hn b hb, (f2 b hb).2⟩
  refine codeAny_forLoop_any (fun n s' => ∃ i σ' H', Inv X pins σ' H' s' ∧ tn i s'.heap ∧ (∀ b ∈ fp, H' b = none) ∧ W i n σ' H') ?_ m0 ⟨0, σ, H2, I2, st2, fun b hb => (f2 b hb).1, w0⟩
  rintro n s3 ⟨i, σ3, H3, I3, st3, fr3, w3⟩
  rcases turn i n σ3 H3 w3 with ⟨stop, qn⟩ | ⟨go, N, hN, step⟩
  · refine wpAny_passesOwn hp (thn (T.done X rfl rfl rfl hc i pins s3 σ3 H3 X.xe I3 (stat fr3) st3 stop) fun r s4 ⟨hr, I4⟩ => ?_)
    subst hr
    exact wpAny_execs_nil ⟨σ3, H3, I4, qn⟩
  · refine wpAny_passesOwn hp (thn (T.item X rfl rfl rfl hc i pins s3 σ3 H3 X.xe I3 (stat fr3) st3 go) fun r s4 ⟨u, hr, h4⟩ => ?_)
    subst hr
    refine wpAny_passesOwn hp (thn h4 fun _ s5 ⟨x, H5, I5, r5, y5, st5, fr5⟩ => ?_)
    have I5' := I5.pinned (stat fr5) (T.obj _ _ st5)
    refine wpAny_passesOwn hp (thn (hg _ s5 σ3 H5 x u _ I5' r5 (step x H5 y5)) fun _ s6 ⟨σ6, H6, I6, q6⟩ => ?_)
    refine wpAny_passesOwn hp (thn (hb _ s6 σ6 H6 _ I6 q6) fun f s7 q7 => ?_)
    have again : ∀ {σ7 : St} {H7 : Hp}, Inv X (pins ++ pinsAt fp s5.heap) σ7 H7 s7 → N σ7 H7 → ∃ m, m < n ∧ ∃ i σ' H', Inv X pins σ' H' s7 ∧ tn i s7.heap ∧ (∀ b ∈ fp, H' b = none) ∧ W i m σ' H' := fun {σ7 H7} I7 n7 => by
      obtain ⟨m', hm, w7⟩ := hN σ7 H7 n7
      refine ⟨m', hm, i + 1, σ7, H7, I7.unpinned, T.keep _ _ _ st5 fun b hb o e => (I7.pin (b, o) (List.mem_append_right _ (List.mem_append_right _ (mem_pinsAt hb e)))).1, fun b hb => ?_, w7⟩
      obtain ⟨o, e, d⟩ := T.obj _ _ st5 b hb
      exact (I7.pin (b, o) (List.mem_append_right _ (List.mem_append_right _ (mem_pinsAt hb e)))).2.1
    cases f with
    | next => obtain ⟨σ7, H7, I7, n7⟩ := q7; exact again I7 n7
    | cont => obtain ⟨σ7, H7, I7, n7⟩ := q7; exact again I7 n7
    | brk => obtain ⟨σ7, H7, I7, q7⟩ := q7; exact ⟨σ7, H7, I7.unpinned, q7⟩
    | ret v => obtain ⟨x7, σ7, H7, I7, r7, q7⟩ := q7; exact ⟨x7, σ7, H7, I7.unpinned, r7, q7⟩
end

/-! ### the forms one uses -/
end L2

namespace L2
open PySem PySem.Spec PyProof.Rows

abbrev R2 := V → V → Hp → VK → Prop
/-- a two-place operation on values: f is binaryOp op, inplaceOp op or compareOp op -/
def OpR (X : Cx) (f : Value → Value → Sem Value) (r : R2) : Prop :=
  ∀ (pins : List (Addr × Obj)) (s : Shared) (σ : St) (H : Hp) (x y : V) (v u : Value) (Q : VK), Inv X pins σ H s → RelV x v → RelV y u → r x y H Q →
    wpAny (model X.prog X.w) X.A (f v u) (EP X pins σ Q) X.xe s
/-- a one-place operation -/
def UnR (X : Cx) (f : Value → Sem Value) (r : V → Hp → VK → Prop) : Prop :=
  ∀ (pins : List (Addr × Obj)) (s : Shared) (σ : St) (H : Hp) (x : V) (v : Value) (Q : VK), Inv X pins σ H s → RelV x v → r x H Q →
    wpAny (model X.prog X.w) X.A (f v) (EP X pins σ Q) X.xe s
/-- a call of a value that is known (a builtin, a type) with values -/
def CallR (X : Cx) (f : Value) (r : List V → Hp → VK → Prop) : Prop :=
  ∀ (pins : List (Addr × Obj)) (s : Shared) (σ : St) (H : Hp) (xs : List V) (us : List Value) (Q : VK), Inv X pins σ H s → Vals xs us → r xs H Q →
    wpAny (model X.prog X.w) X.A (call f us) (EP X pins σ Q) X.xe s
/-- a value's truth -/
def TruR (X : Cx) (r : V → Hp → (Bool → Hp → Prop) → Prop) : Prop :=
  ∀ (pins : List (Addr × Obj)) (s : Shared) (σ : St) (H : Hp) (x : V) (v : Value) (Q : Bool → Hp → Prop), Inv X pins σ H s → RelV x v → r x H Q →
    wpAny (model X.prog X.w) X.A (truthy v) (TP X pins σ Q) X.xe s

def tOp (r : R2) (ta tb : TE) : TE := fun σ H Q => ta σ H fun x H1 => tb σ H1 fun y H2 => r x y H2 Q
def tUn (r : V → Hp → VK → Prop) (ta : TE) : TE := fun σ H Q => ta σ H fun x H1 => r x H1 Q
/-- ints in, under C, and a value out -/
def rI (C : Int → Int → Prop) (g : Int → Int → V) : R2 := fun x y H Q => ∃ i j, x = .int i ∧ y = .int j ∧ C i j ∧ Q (g i j) H
def rI0 (g : Int → Int → V) : R2 := fun x y H Q => ∃ i j, x = .int i ∧ y = .int j ∧ Q (g i j) H
def rU (g : Int → V) : V → Hp → VK → Prop := fun x H Q => ∃ i, x = .int i ∧ Q (g i) H

section
variable {X : Cx} {a b c : Expr} {ta tb tc : TE} {pos : Pos}

theorem binT (ha : PE X a ta) (hb : PE X b tb) {pins : List (Addr × Obj)} {s : Shared} {σ : St} {H : Hp} {R : V → V → Hp → Prop} (I : Inv X pins σ H s)
    (h : ta σ H fun x H1 => tb σ H1 fun y H2 => R x y H2) {Q : Value → Shared → Prop} {f : Value → Value → Sem Value}
    (hf : ∀ v u s2 x y H2, Inv X pins σ H2 s2 → RelV x v → RelV y u → R x y H2 → wpAny (model X.prog X.w) X.A (f v u) Q X.xe s2) :
    wpAny (model X.prog X.w) X.A (eval a X.env) (fun v s₁ => wpAny (model X.prog X.w) X.A (eval b X.env) (fun u s₂ => wpAny (model X.prog X.w) X.A (f v u) Q X.xe s₂) X.xe s₁) X.xe s := by
  refine thn (ha pins s σ H _ I h) fun v s1 ⟨x, H1, I1, r1, q1⟩ => ?_
  refine thn (hb pins s1 σ H1 _ I1 q1) fun u s2 ⟨y, H2, I2, r2, q2⟩ => ?_
  exact hf v u s2 x y H2 I2 r1 r2 q2

theorem pe_op {op : Operator} {r : R2} (ho : OpR X (binaryOp op) r) (ha : PE X a ta) (hb : PE X b tb) : PE X (.BinOp a op b pos) (tOp r ta tb) := by
  intro pins s σ H Q I h
  exact wpAny_BinOp (binT ha hb I h fun v u s2 x y H2 I2 rx ry q => ho pins s2 σ H2 x y v u Q I2 rx ry q)
theorem pe_un {op : UnaryOp} {r : V → Hp → VK → Prop} (ho : UnR X (unaryOp op) r) (ha : PE X a ta) : PE X (.UnaryOp op a pos) (tUn r ta) := by
  intro pins s σ H Q I h
  exact UnaryOp_ (thn (ha pins s σ H _ I h) fun v s1 ⟨x, H1, I1, r1, q1⟩ => ho pins s1 σ H1 x v Q I1 r1 q1)
/-! ### ints -/
theorem opI {f : Value → Value → Sem Value} {C : Int → Int → Prop} {g : Int → Int → Int}
    (rule : ∀ (i j : Int) (t u : Tok) (s : Shared) (Q : Value → Shared → Prop) (E : Value → Shared → Prop), C i j → Q (.int (g i j) s.toks) { s with toks := s.toks + 1 } → wpAny (model X.prog X.w) X.A (f (.int i t) (.int j u)) Q E s) :
    OpR X f (rI C fun i j => .int (g i j)) := by
  intro pins s σ H x y v u Q I rx ry h
  obtain ⟨i, j, rfl, rfl, hc, q⟩ := h
  obtain ⟨t, rfl⟩ := rx
  obtain ⟨t', rfl⟩ := ry
  exact rule i j t t' s _ _ hc ⟨.int (g i j), H, I.tok _, ⟨_, rfl⟩, q⟩
theorem opI0 {f : Value → Value → Sem Value} {g : Int → Int → Int}
    (rule : ∀ (i j : Int) (t u : Tok) (s : Shared) (Q : Value → Shared → Prop) (E : Value → Shared → Prop), Q (.int (g i j) s.toks) { s with toks := s.toks + 1 } → wpAny (model X.prog X.w) X.A (f (.int i t) (.int j u)) Q E s) :
    OpR X f (rI0 fun i j => .int (g i j)) := by
  intro pins s σ H x y v u Q I rx ry h
  obtain ⟨i, j, rfl, rfl, q⟩ := h
  obtain ⟨t, rfl⟩ := rx
  obtain ⟨t', rfl⟩ := ry
  exact rule i j t t' s _ _ ⟨.int (g i j), H, I.tok _, ⟨_, rfl⟩, q⟩
theorem opB0 {f : Value → Value → Sem Value} {g : Int → Int → Bool}
    (rule : ∀ (i j : Int) (t u : Tok) (s : Shared) (Q : Value → Shared → Prop) (E : Value → Shared → Prop), Q (.bool (g i j)) s → wpAny (model X.prog X.w) X.A (f (.int i t) (.int j u)) Q E s) :
    OpR X f (rI0 fun i j => .bl (g i j)) := by
  intro pins s σ H x y v u Q I rx ry h
  obtain ⟨i, j, rfl, rfl, q⟩ := h
  obtain ⟨t, rfl⟩ := rx
  obtain ⟨t', rfl⟩ := ry
  exact rule i j t t' s _ _ ⟨.bl (g i j), H, I, rfl, q⟩

def CPow (i j : Int) : Prop := 0 ≤ j ∧ j ≤ 1000000 ∧ i.natAbs < 2 ^ 64
def CMul (i j : Int) : Prop := (-(2 ^ 64) < i ∧ i < 2 ^ 64) ∨ (-(2 ^ 64) < j ∧ j < 2 ^ 64)
theorem CMul.ok {i j : Int} (h : CMul i j) : IntMulOk i j := by
  rcases h with ⟨h1, h2⟩ | ⟨h1, h2⟩
  · exact .of_left (intBits_le_64 h1 h2)
  · exact .of_right (intBits_le_64 h1 h2)
theorem op_add : OpR X (binaryOp .Add) (rI0 fun i j => .int (i + j)) := opI0 fun _ _ _ _ _ _ _ q => add_int q
theorem op_sub : OpR X (binaryOp .Sub) (rI0 fun i j => .int (i - j)) := opI0 fun _ _ _ _ _ _ _ q => sub_int q
theorem op_modN : OpR X (binaryOp .Mod) (rI (fun _ j => j ≠ 0) fun i j => .int (i.fmod j)) := opI fun _ _ _ _ _ _ _ hc q => mod_int' hc q
theorem op_pow : OpR X (binaryOp .Pow) (rI CPow fun i j => .int (i ^ j.toNat)) := opI fun _ _ _ _ _ _ _ hc q => pow_int_small hc.1 hc.2.1 hc.2.2 q
theorem unI {f : Value → Sem Value} {g : Int → Int}
    (rule : ∀ (i : Int) (t : Tok) (s : Shared) (Q : Value → Shared → Prop) (E : Value → Shared → Prop), Q (.int (g i) s.toks) { s with toks := s.toks + 1 } → wpAny (model X.prog X.w) X.A (f (.int i t)) Q E s) :
    UnR X f (rU fun i => .int (g i)) := by
  intro pins s σ H x v Q I rx h
  obtain ⟨i, rfl, q⟩ := h
  obtain ⟨t, rfl⟩ := rx
  exact rule i t s _ _ ⟨.int (g i), H, I.tok _, ⟨_, rfl⟩, q⟩
theorem un_neg : UnR X (unaryOp .USub) (rU fun i => .int (-i)) := unI fun _ _ _ _ _ q => neg_int q
/-! ### bools among ints: n += (a < b) -/
end

/-! ### comparisons -/
section
variable {X : Cx} {a b c : Expr} {ta tb tc : TE} {pos : Pos}
theorem fin_bl {pins : List (Addr × Obj)} {σ : St} {H : Hp} {s : Shared} {Q : VK} {k k' : Bool} (I : Inv X pins σ H s) (q : Q (.bl k) H) (e : k = k') : EP X pins σ Q (.bool k') s := by
  subst e
  exact ⟨.bl k, H, I, rfl, q⟩
theorem op_lt : OpR X (compareOp .Lt) (rI0 fun i j => .bl (decide (i < j))) := opB0 fun _ _ _ _ _ _ _ q => lt_int q
theorem op_gt : OpR X (compareOp .Gt) (rI0 fun i j => .bl (decide (j < i))) := opB0 fun _ _ _ _ _ _ _ q => gt_int q
theorem op_ge : OpR X (compareOp .GtE) (rI0 fun i j => .bl (decide (j ≤ i))) := opB0 fun _ _ _ _ _ _ _ q => ge_int q
theorem op_lt_str : OpR X (compareOp .Lt) (fun x y H Q => ∃ i j, x = .str i ∧ y = .str j ∧ Q (.bl (decide (i.cps.toList < j.cps.toList))) H) := by
  intro pins s σ H x y v u Q I rx ry h
  obtain ⟨i, j, rfl, rfl, q⟩ := h
  obtain ⟨t, rfl⟩ := rx
  obtain ⟨t', rfl⟩ := ry
  exact lt_str (fin_bl I q rfl)
theorem op_notN : OpR X (compareOp .IsNot) (fun x y H Q => y = .non ∧ Q (.bl (!decide (x = .non))) H) := by
  intro pins s σ H x y v u Q I rx ry h
  obtain ⟨rfl, q⟩ := h
  cases ry
  refine isnot_none_gen (fin_bl I q ?_)
  cases x <;> first
    | (cases rx; rfl)
    | (obtain ⟨t, rfl⟩ := rx; rfl)

/-- two rules for one operation: by cases -/
theorem OpR.or {f : Value → Value → Sem Value} {r r' : R2} (h : OpR X f r) (h' : OpR X f r') : OpR X f (fun x y H Q => r x y H Q ∨ r' x y H Q) := by
  intro pins s σ H x y v u Q I rx ry q
  rcases q with q | q
  · exact h pins s σ H x y v u Q I rx ry q
  · exact h' pins s σ H x y v u Q I rx ry q

theorem nomark (b : Expr) {op : CmpOp} (h : op ≠ .In := by decide) (h2 : op ≠ .NotIn := by decide) : behindInMarks op b = false := by
  have e1 : (op == CmpOp.In) = false := by cases op <;> first | rfl | exact absurd rfl h
  have e2 : (op == CmpOp.NotIn) = false := by cases op <;> first | rfl | exact absurd rfl h2
  cases b <;> simp [behindInMarks, e1, e2]
/-- a comparison as a value; hm: nomark b, or (for in, not in) by with_unfolding_all rfl -/
theorem pe_cmpR {op : CmpOp} {r : R2} (ho : OpR X (compareOp op) r) (ha : PE X a ta) (hb : PE X b tb) (hm : behindInMarks op b = false) : PE X (.Compare a [op] [b] pos) (tOp r ta tb) := by
  intro pins s σ H Q I h
  exact wpAny_Compare1 (binT ha hb I h fun v u s2 x y H2 I2 rx ry q => ho pins s2 σ H2 x y v u Q I2 rx ry q) hm
/-- a reading of a value as a test -/
def tTest (t : TE) : TT := fun σ H Q => t σ H fun x H' => ∃ k, x = .bl k ∧ Q k H'
theorem pt_cmpR {op : CmpOp} {r : R2} (ho : OpR X (compareOp op) r) (ha : PE X a ta) (hb : PE X b tb) (hm : behindInMarks op b = false) : PT X (.Compare a [op] [b] pos) (tTest (tOp r ta tb)) := by
  intro pins s σ H Q I h
  refine wpAny_isTrue_Compare1 (thn (ha pins s σ H _ I h) fun v s1 ⟨x, H1, I1, r1, q1⟩ => thn (hb pins s1 σ H1 _ I1 q1) fun u s2 ⟨y, H2, I2, r2, q2⟩ =>
    thn (ho pins s2 σ H2 x y v u _ I2 r1 r2 q2) fun c s3 ⟨z, H3, I3, r3, k, e, q3⟩ => ?_) hm
  subst e
  cases r3
  exact wpAny_truthy_bool ⟨H3, I3, q3⟩
/-! ### truth -/
/-- a value's truth by the abstract heap -/
def TruV (K : PySem.W.Frag) (x : V) (H : Hp) (k : Bool) : Prop :=
  match x with
  | .non => k = false
  | .bl b => k = b
  | .int i => k = (i != 0)
  | .str y => y.length ≤ sizeLine ∧ k = ((y.length : Int) != 0)
  | .byt y => y.size ≤ sizeLine ∧ k = ((y.size : Int) != 0)
  | .ref p => (∃ xs, SqL K H p xs ∧ k = !xs.isEmpty) ∨ (∃ xs, SqT K H p xs ∧ k = !xs.isEmpty) ∨ ∃ kvs, H p = some (.dK kvs) ∧ k = !kvs.isEmpty
  | _ => False
theorem isEmpty_kv {κ : Type} {kvs : List (κ × V)} {vs : List (κ × Value)} (r : KV kvs vs) : (!vs.isEmpty) = !kvs.isEmpty := by
  cases r <;> rfl
theorem isEmpty_of {xs : List V} {its : List Value} (r : Vals xs its) : (!its.toArray.isEmpty) = !xs.isEmpty := by
  cases r <;> simp
theorem line63 : (sizeLine : Nat) < 2 ^ 63 := by rw [sizeLine_eq]; decide
theorem tru_ok : TruR X (fun x H Q => ∃ k, TruV X.K x H k ∧ Q k H) := by
  intro pins s σ H x v Q I rx h
  obtain ⟨k, e, q⟩ := h
  have hl := line63
  have hs : sizeLine = 16777216 := sizeLine_eq
  cases x with
  | non =>
    cases rx
    have e' : k = false := e
    subst e'
    exact truthy_none ⟨H, I, q⟩
  | bl b =>
    cases rx
    have e' : k = b := e
    subst e'
    exact wpAny_truthy_bool ⟨H, I, q⟩
  | int i =>
    obtain ⟨t, rfl⟩ := rx
    have e' : k = (i != 0) := e
    subst e'
    exact PySem.P.truthy_int ⟨H, I, q⟩
  | str y =>
    obtain ⟨t, rfl⟩ := rx
    obtain ⟨hy, e'⟩ : y.length ≤ sizeLine ∧ k = ((y.length : Int) != 0) := e
    subst e'
    exact PySem.P.truthy_str (by omega) ⟨H, I.tok _, q⟩
  | byt y =>
    obtain ⟨t, rfl⟩ := rx
    obtain ⟨hy, e'⟩ : y.size ≤ sizeLine ∧ k = ((y.size : Int) != 0) := e
    subst e'
    exact PySem.W.truthy_bytes (by omega) ⟨H, I.tok _, q⟩
  | ref p =>
    cases rx
    have e' : (∃ xs, SqL X.K H p xs ∧ k = !xs.isEmpty) ∨ (∃ xs, SqT X.K H p xs ∧ k = !xs.isEmpty) ∨ ∃ kvs, H p = some (.dK kvs) ∧ k = !kvs.isEmpty := e
    rcases e' with ⟨xs, hx, e'⟩ | ⟨xs, hx, e'⟩ | ⟨kvs, hx, e'⟩
    · subst e'
      obtain ⟨its, r, pl, hz⟩ := I.list hx
      have hlen := r.length
      exact wpAny_truthy_list pl.isList (by simp only [List.size_toArray]; omega) ⟨H, I.tok _, by rw [isEmpty_of r]; exact q⟩
    · subst e'
      obtain ⟨its, r, pl, hz⟩ := I.tuple hx
      have hlen := r.length
      exact truthy_tuple pl (by simp only [List.size_toArray]; omega) ⟨H, I.tok _, by rw [isEmpty_of r]; exact q⟩
    · subst e'
      obtain ⟨hz, hS, vs, r, m⟩ : kvs.length ≤ sizeLine ∧ (p == sysModules) = false ∧ ∃ vs, KV kvs vs ∧ s.heap.DictOf (mixKind X.prog X.w) p vs := I.hok p _ hx
      have hlen : kvs.length = vs.length := Paired.length r
      exact wpAny_truthy_dict hS m (by omega) ⟨H, I.tok _, by rw [isEmpty_kv r]; exact q⟩
  | _ => exact (show False from e).elim
/-- any expression whose test is its value's truth (a name, a call, a subscript, a field ..: he by fun _ => rfl) -/
theorem pt_truth (ha : PE X a ta) (he : ∀ whole, isTrue a X.env whole = (do let v ← whole; standAt a.pos; holding [v] (truthy v))) :
    PT X a (fun σ H Q => ta σ H fun x H' => ∃ k, TruV X.K x H' k ∧ Q k H') := by
  intro pins s σ H Q I h
  exact isTrue_plain (thn (ha pins s σ H _ I h) fun v s1 ⟨x, H1, I1, r1, q1⟩ => tru_ok pins s1 σ H1 x v Q I1 r1 q1) (he _)

/-! ### strs and bytes -/
theorem op_add_str : OpR X (binaryOp .Add) (fun x y H Q => ∃ i j, x = .str i ∧ y = .str j ∧ i.length + j.length ≤ sizeLine ∧ Q (.str (i ++ j)) H) := by
  intro pins s σ H x y v u Q I rx ry h
  obtain ⟨i, j, rfl, rfl, hz, q⟩ := h
  obtain ⟨t, rfl⟩ := rx
  obtain ⟨t', rfl⟩ := ry
  exact add_str (fun t' tk => ⟨.str (i ++ j), H, I.tok _, ⟨_, rfl⟩, q⟩) hz
/-! ### scalar builtins, by CallR -/
theorem vals1 {x : V} {us : List Value} (r : Vals [x] us) : ∃ u, us = [u] ∧ RelV x u := by
  cases r with
  | cons r1 r2 => cases r2; exact ⟨_, rfl, r1⟩
theorem vals2 {x y : V} {us : List Value} (r : Vals [x, y] us) : ∃ u w', us = [u, w'] ∧ RelV x u ∧ RelV y w' := by
  cases r with
  | cons r1 r2 =>
    cases r2 with
    | cons r3 r4 => cases r4; exact ⟨_, _, rfl, r1, r3⟩
theorem call_max2 (hc : X.calm = true) : CallR X (.builtin "max") (fun xs H Q => ∃ i j, xs = [.int i, .int j] ∧ Q (.int (if j > i then j else i)) H) := by
  intro pins s σ H xs us Q I r h
  obtain ⟨i, j, rfl, q⟩ := h
  obtain ⟨u, w', rfl, ⟨t, rfl⟩, ⟨t', rfl⟩⟩ := vals2 r
  refine max_two_ints (I.ok.hd hc) fun h' tk k => ⟨_, H, I.kept k, ?_, q⟩
  by_cases hj : j > i
  · rw [if_pos hj, if_pos hj]; exact ⟨_, rfl⟩
  · rw [if_neg hj, if_neg hj]; exact ⟨_, rfl⟩
theorem call_min2 (hc : X.calm = true) : CallR X (.builtin "min") (fun xs H Q => ∃ i j, xs = [.int i, .int j] ∧ Q (.int (if j < i then j else i)) H) := by
  intro pins s σ H xs us Q I r h
  obtain ⟨i, j, rfl, q⟩ := h
  obtain ⟨u, w', rfl, ⟨t, rfl⟩, ⟨t', rfl⟩⟩ := vals2 r
  refine min_two_ints (I.ok.hd hc) fun h' tk k => ⟨_, H, I.kept k, ?_, q⟩
  by_cases hj : j < i
  · rw [if_pos hj, if_pos hj]; exact ⟨_, rfl⟩
  · rw [if_neg hj, if_neg hj]; exact ⟨_, rfl⟩
theorem call_int1 : CallR X (.type "int") (fun xs H Q => (∃ i, xs = [.int i] ∧ Q (.int i) H) ∨ ∃ k, xs = [.bl k] ∧ Q (.int (if k then 1 else 0)) H) := by
  intro pins s σ H xs us Q I r h
  rcases h with ⟨i, rfl, q⟩ | ⟨k, rfl, q⟩
  · obtain ⟨u, rfl, t, rfl⟩ := vals1 r
    exact call_int_int ⟨.int i, H, I, ⟨_, rfl⟩, q⟩
  · obtain ⟨u, rfl, r1⟩ := vals1 r
    cases r1
    exact call_int_bool ⟨.int (if k then 1 else 0), H, I.tok _, ⟨_, rfl⟩, q⟩
/-- len of a str, a bytes, a list, a tuple -/
def LenV (K : PySem.W.Frag) (x : V) (H : Hp) (n : Nat) : Prop :=
  match x with
  | .str y => y.length ≤ sizeLine ∧ n = y.length
  | .byt y => y.size ≤ sizeLine ∧ n = y.size
  | .ref p => (∃ xs, SqL K H p xs ∧ n = xs.length) ∨ ∃ xs, SqT K H p xs ∧ n = xs.length
  | _ => False
theorem call_len : CallR X (.builtin "len") (fun xs H Q => ∃ x n, xs = [x] ∧ LenV X.K x H n ∧ Q (.int n) H) := by
  intro pins s σ H xs us Q I r h
  obtain ⟨x, n, rfl, e, q⟩ := h
  obtain ⟨u, rfl, rx⟩ := vals1 r
  have hl := line63
  have hs : sizeLine = 16777216 := sizeLine_eq
  cases x with
  | str y =>
    obtain ⟨t, rfl⟩ := rx
    obtain ⟨hy, e'⟩ : y.length ≤ sizeLine ∧ n = y.length := e
    subst e'
    exact len_str (by omega) ⟨.int _, H, I.tok _, ⟨_, rfl⟩, q⟩
  | byt y =>
    obtain ⟨t, rfl⟩ := rx
    obtain ⟨hy, e'⟩ : y.size ≤ sizeLine ∧ n = y.size := e
    subst e'
    exact PySem.W.len_bytes (by omega) ⟨.int _, H, I.tok _, ⟨_, rfl⟩, q⟩
  | ref p =>
    cases rx
    have e' : (∃ xs, SqL X.K H p xs ∧ n = xs.length) ∨ ∃ xs, SqT X.K H p xs ∧ n = xs.length := e
    rcases e' with ⟨xs, hx, e'⟩ | ⟨xs, hx, e'⟩
    · subst e'
      obtain ⟨its, r', pl, hz⟩ := I.list hx
      have hlen := r'.length
      exact Calls.call_len_list pl.isList (by simp only [List.size_toArray]; omega) ⟨.int xs.length, H, I.tok _, ⟨_, by simp only [List.size_toArray]; rw [hlen]⟩, q⟩
    · subst e'
      obtain ⟨its, r', pl, hz⟩ := I.tuple hx
      have hlen := r'.length
      exact len_tuple pl (by simp only [List.size_toArray]; omega) ⟨.int xs.length, H, I.tok _, ⟨_, by simp only [List.size_toArray]; rw [hlen]⟩, q⟩
  | _ => exact (show False from e).elim
end
end L2

namespace L2
open PySem PySem.Spec PyProof.Rows

/-! ### an instance, its attributes a map -/
structure ObjM (h : Heap) (x dx C : Addr) (mA : Str → Option Value) : Prop where
  obj : h.get? x = some (PySem.W.instObj C dx)
  ns : h.Ns1 dx mA
  ne : dx ≠ x

theorem lookIn_ns {h : Heap} {dx : Addr} {mA : Str → Option Value} (n : h.Ns1 dx mA) : ∃ od, h.get? dx = some od ∧ ∀ name, PySem.W.lookIn name od = some (mA name) := by
  obtain ⟨o, es, ep, ho, hd, hk, _, hm⟩ := n
  refine ⟨o, ho, fun name => ?_⟩
  have e := hm name
  unfold nsFind findBy at e
  rw [← Array.find?_toList] at e
  unfold PySem.W.lookIn
  rw [hd]
  dsimp only
  split
  · rename_i y q
    rw [q] at e
    exact congrArg some e
  · rename_i q
    rw [q] at e
    have a : es.toList.any (·.refKey) = false := by
      rw [List.any_eq_false]
      intro y hy
      obtain ⟨z, t, hkey⟩ := hk y (Array.mem_toList_iff.mp hy)
      simp [DictEntry.refKey, hkey]
    have a' : ¬ es.toList.any (·.refKey) = true := by rw [a]; exact Bool.false_ne_true
    rw [if_neg a']
    exact congrArg some e

theorem ObjM.look {h : Heap} {x dx C : Addr} {mA : Str → Option Value} (I : ObjM h x dx C mA) : ∃ od, PySem.W.InstAt h x (PySem.W.instObj C dx) C (some od) ∧ ∀ name, PySem.W.lookIn name od = some (mA name) :=
  let ⟨od, ho, hl⟩ := lookIn_ns I.ns
  ⟨od, ⟨I.obj, rfl, rfl, ho⟩, hl⟩

section
variable {prog : Program} {w : World} {A : Around} {E : Value → Shared → Prop} {s : Shared} {K : PySem.W.Frag} {x dx C f : Addr} {mA : Str → Option Value} {name : Str} {v : Value}

end

/-! ### the attributes as a list of pairs -/
theorem RelO.some_of {v : V} {o : Option Value} (r : RelO (some v) o) : ∃ u, o = some u ∧ RelV v u := by
  cases o with
  | none => exact (show False from r).elim
  | some u => exact ⟨u, rfl, r⟩
section
variable {P : Program} {w : World} {H H' : Hp} {h h' : Heap} {a C dx : Addr} {fs fs' : List (Str × V)}
end

/-! ### what of the text a class must have -/
structure Cls (K : PySem.W.Frag) (C : Addr) : Prop where
  pg : PySem.W.plainGet K C Str.empty = true
  hd : PySem.W.hasDictIn K C = true
  po : PySem.W.plainOver K C = true
  sa : PySem.W.findIn K (.ref C) "__setattr__" = some (some (.builtin "object.__setattr__"))
theorem Cls.get {K : PySem.W.Frag} {C : Addr} (c : Cls K C) (f : Str) : PySem.W.plainGet K C f = true := c.pg
/-- a constant of the class -/
structure Con (K : PySem.W.Frag) (C : Addr) (f : Str) (v : V) (u : Value) : Prop where
  at_ : PySem.W.findIn K (.ref C) f = some (some u)
  rel : RelV v u
  get : PySem.W.specialIn K u "__get__" = some none
  cp : PySem.W.copiedNames.contains f = false
/-- a method: a plain def of the class or of one above it -/
structure Meth (K : PySem.W.Frag) (C : Addr) (m : Str) (f : Addr) : Prop where
  at_ : PySem.W.findIn K (.ref C) m = some (some (.ref f))
  fn : PySem.W.isFn K (.ref f) = true
  kp : PySem.W.keepIn K (.ref f) = true

section
variable {X : Cx} {pins : List (Addr × Obj)} {σ : St} {H : Hp} {s : Shared} {a C dx : Addr} {fs : List (Str × V)} {f : Str} {v : V} {A : Around} {E : Value → Shared → Prop}

end

/-! ### readings and rules -/
section
variable {X : Cx} {o e value : Expr} {f : Str} {pos pos' tpos : Pos} {ta tv : TE}
def rAdd : V → V → Hp → VK → Prop := fun x y H Q => ∃ i j, x = .int i ∧ y = .int j ∧ Q (.int (i + j)) H
end

/-! ### isinstance -/
section
variable {X : Cx} {pins : List (Addr × Obj)} {σ : St} {H : Hp} {s : Shared} {A : Around} {E : Value → Shared → Prop} {Q : Value → Shared → Prop} {c : Value} {b : Bool}
/-- the type of a value, as the fragment's deciders take it; for an instance its class -/
inductive TyOf (K : PySem.W.Frag) (H : Hp) : V → Value → Prop where
  | non : TyOf K H .non (.type "NoneType")
  | bl (x : Bool) : TyOf K H (.bl x) (.type "bool")
  | int (i : Int) : TyOf K H (.int i) (.type "int")
  | str (x : Str) : TyOf K H (.str x) (.type "str")
  | flt (x : UInt64) : TyOf K H (.flt x) (.type "float")
  | lst {a : Addr} {xs : List V} (e : H a = some (.lst xs)) : TyOf K H (.ref a) (.type "list")
  | frz {a : Addr} {o : Obj} {xs : List V} (e : H a = some (.frz o (.lst xs))) : TyOf K H (.ref a) (.type "list")
  | tup {a : Addr} {xs : List V} (e : H a = some (.tup xs)) : TyOf K H (.ref a) (.type "tuple")
  | dK {a : Addr} {kvs : List (Key × V)} (e : H a = some (.dK kvs)) : TyOf K H (.ref a) (.type "dict")
  | dT {a : Addr} {kvs : List (List Key × V)} (e : H a = some (.dT kvs)) : TyOf K H (.ref a) (.type "dict")
  | ins {a C dx : Addr} {fs : List (Str × V)} (e : H a = some (.ins C dx fs)) (cl : Cls K C) (ha : PySem.W.findIn K (.ref C) "__class__" = some (some (.builtin "object.__class__")))
      (hn : PySem.W.specialIn K (.builtin "object.__class__") "__get__" = some (some (.builtin "getset_descriptor.__get__"))) (htk : PySem.W.takesIn K (.builtin "object.__class__") = some true)
      (hm : PySem.W.mroIn K C (.type "object") = some true) : TyOf K H (.ref a) (.ref C)
end
end L2

namespace L2
open PySem PySem.Spec PyProof.Rows

/-! ### room -/
structure Room (k : Nat) (A : Around) : Prop where
  hd : A.handled = none
  dp : A.depth + 3 * k + 5 < recursionLimit
  un : A.units + 16 * k + 200 < cLine
theorem Room.mono {j k : Nat} {A : Around} (r : Room k A) (h : j ≤ k) : Room j A := ⟨r.hd, by have := r.dp; omega, by have := r.un; omega⟩
theorem Room.deeper {k : Nat} {A : Around} (r : Room (k + 1) A) (env : Env) : Room k (A.deeper env) :=
  ⟨r.hd, by have := r.dp; show A.depth + 1 + 3 * k + 5 < _; omega, by have := r.un; show A.units + 3 + 16 * k + 200 < _; omega⟩
theorem Room.in1 {k : Nat} {A : Around} (r : Room (k + 1) A) : Room k A.in1 :=
  ⟨r.hd, by have := r.dp; show A.depth + 3 * k + 5 < _; omega, by have := r.un; show A.units + 1 + 16 * k + 200 < _; omega⟩
theorem Room.depth {k : Nat} {A : Around} (r : Room k A) : A.depth < recursionLimit := by have := r.dp; omega
theorem Room.units {k : Nat} {A : Around} (r : Room k A) : A.units + 64 < cLine := by have := r.un; omega
/-! ### argument lists and displays -/
def tNil : TA := fun _ H Q => Q [] H
def tCons (ta : TE) (tr : TA) : TA := fun σ H Q => ta σ H fun x H1 => tr σ H1 fun xs H2 => Q (x :: xs) H2
section
variable {X : Cx} {e : Expr} {es : List Expr} {te : TE} {t : TA} {pos : Pos}
theorem pa_nil : PA X [] tNil := fun _ _ _ _ H Q I h => Calls.spliced_nil ⟨[], H, I, .nil, h⟩
theorem pa_cons (ha : PE X e te) (hr : PA X es t) (hs : starEach (e :: es) X.env = (false, eval e X.env) :: starEach es X.env := by rfl) : PA X (e :: es) (tCons te t) := by
  intro pos pins s σ H Q I h
  rw [hs]
  show wpAny _ _ (spliced ((false, eval e X.env) :: backTo pos (starEach es X.env))) _ _ s
  refine Calls.spliced_cons (thn (ha pins s σ H _ I h) fun u s1 ⟨x, H1, I1, r1, q1⟩ => ?_)
  exact thn (hr pos pins s1 σ H1 _ I1 q1) fun us s2 ⟨xs, H2, I2, r2, q2⟩ => ⟨x :: xs, H2, I2, .cons r1 r2, q2⟩

/-- a tuple, a list of written items -/
def tTup (t : TA) : TE := fun σ H Q => t σ H fun xs H1 => xs.length ≤ sizeLine ∧ ∀ p, H1 p = none → Q (.ref p) (upd H1 p (.tup xs))
def tLst (t : TA) : TE := fun σ H Q => t σ H fun xs H1 => xs.length ≤ sizeLine ∧ ∀ p, H1 p = none → Q (.ref p) (upd H1 p (.lst xs))
theorem pe_tup {x1} (h : PA X es t) : PE X (.Tuple es x1 pos) (tTup t) := by
  intro pins s σ H Q I hq
  refine wpAny_Tuple_spliced (thn (h pos pins s σ H _ I hq) fun us s1 ⟨xs, H1, I1, r, z, q⟩ => ⟨by rw [← r.length]; exact z, ?_⟩)
  have hf : H1 s1.heap.objs.size = none := I1.hok.fresh (Nat.le_refl _)
  refine ⟨.ref s1.heap.objs.size, upd H1 s1.heap.objs.size (.tup xs), I1.laid (t' := s1.toks) (fun b u e => Heap.get?_push_of_some _ e) (Nat.le_refl _) ?_, rfl, q _ hf⟩
  exact ⟨z, us, r, ⟨_, Heap.get?_push_size _ rfl, rfl, _, rfl⟩, _, Heap.get?_push_size _ rfl, rfl⟩
theorem pe_lst (h : PA X es t) : PE X (.List es pos) (tLst t) := by
  intro pins s σ H Q I hq
  refine wpAny_List_spliced (thn (h pos pins s σ H _ I hq) fun us s1 ⟨xs, H1, I1, r, z, q⟩ => ⟨by rw [← r.length]; exact z, ?_⟩)
  have hf : H1 s1.heap.objs.size = none := I1.hok.fresh (Nat.le_refl _)
  refine ⟨.ref s1.heap.objs.size, upd H1 s1.heap.objs.size (.lst xs), I1.laid (t' := s1.toks) (fun b u e => Heap.get?_push_of_some _ e) (Nat.le_refl _) ?_, rfl, q _ hf⟩
  exact ⟨z, us, 0, r, Heap.get?_push_size _ rfl⟩
end

/-! ### what a def promises -/
/-- a def's promise: the bound arguments in the parameters' order, the heap, the wanted end, the wanted exception -/
abbrev Sp := List V → Hp → VK → XK → Prop
/-- how an exception lies behind a call (file 08 gives it): the callers' frames, abstract heap and state ahead of the call, the wish, the exception, the state -/
abbrev CXT := List Env → Hp → Shared → XK → Value → Shared → Prop

/-- the state at a call -/
structure Env0 (P : Program) (w : World) (K : PySem.W.Frag) (mg : Str → Option Value) (base : Heap) (A : Around) (outer : List Env) (s : Shared) (H : Hp) : Prop where
  frames : A.frames = some outer
  mod : Mod K mg base
  bs : ∀ b o, base.get? b = some o → s.heap.get? b = some o ∧ H b = none
  bsz : base.objs.size ≤ s.heap.objs.size
  funs : s.heap.FunFrames base outer
  frf : ∀ b ∈ frs outer, H b = none
  hok : HOk P w H s.heap
  bare : AllBare s.gens
/-- a call's end -/
def CE (outer : List Env) (P : Program) (w : World) (H : Hp) (s : Shared) (Q : VK) (u : Value) (s' : Shared) : Prop :=
  ∃ v H', s'.os = s.os ∧ AllBare s'.gens ∧ Un (frs outer) [] H H' s.heap s'.heap ∧ HOk P w H' s'.heap ∧ RelV v u ∧ Q v H'
def CR (CX : CXT) (outer : List Env) (P : Program) (w : World) (H : Hp) (s : Shared) (Q : VK) (E : XK) (r : Result) (s' : Shared) : Prop :=
  match r with
  | .ok (.ret u) => CE outer P w H s Q u s'
  | .ok _ => False
  | .error e => CX outer H s E e s'
structure FnOk (P : Program) (w : World) (K : PySem.W.Frag) (mg : Str → Option Value) (base : Heap) (CX : CXT) (k : Nat) (f : Addr) (fd : FuncData) (ps : List Str) (sp : Sp) : Prop where
  len : ∀ vs H Q E, sp vs H Q E → vs.length = ps.length
  run : ∀ (A : Around) (outer : List Env) (s : Shared) (H : Hp) (args : Args) (us : List Value) (vs : List V) (Q : VK) (E : XK), Room k A → Env0 P w K mg base A outer s H → BindsTo s fd args (ps.zip us) → Vals vs us → sp vs H Q E →
    codeAny (model P w) A (.call (.ref f) args) (CR CX outer P w H s Q E) s
theorem FnOk.mono {P : Program} {w : World} {K : PySem.W.Frag} {mg : Str → Option Value} {base : Heap} {CX : CXT} {j k : Nat} {f : Addr} {fd : FuncData} {ps : List Str} {sp : Sp} (F : FnOk P w K mg base CX j f fd ps sp) (h : j ≤ k) :
    FnOk P w K mg base CX k f fd ps sp := ⟨F.len, fun A outer s H args us vs Q E hr => F.run A outer s H args us vs Q E (hr.mono h)⟩
/-- a weaker promise -/
theorem FnOk.imp {P : Program} {w : World} {K : PySem.W.Frag} {mg : Str → Option Value} {base : Heap} {CX : CXT} {k : Nat} {f : Addr} {fd : FuncData} {ps : List Str} {sp sp' : Sp} (F : FnOk P w K mg base CX k f fd ps sp)
    (h : ∀ vs H Q E, sp' vs H Q E → sp vs H Q E) : FnOk P w K mg base CX k f fd ps sp' :=
  ⟨fun vs H Q E q => F.len vs H Q E (h _ _ _ _ q), fun A outer s H args us vs Q E hr he hb hv hs => F.run A outer s H args us vs Q E hr he hb hv (h _ _ _ _ hs)⟩

theorem Env0.in1 {P : Program} {w : World} {K : PySem.W.Frag} {mg : Str → Option Value} {base : Heap} {A : Around} {outer : List Env} {s : Shared} {H : Hp} (e : Env0 P w K mg base A outer s H) :
    Env0 P w K mg base A.in1 outer s H := ⟨e.frames, e.mod, e.bs, e.bsz, e.funs, e.frf, e.hok, e.bare⟩

section
variable {X : Cx} {pins : List (Addr × Obj)} {σ : St} {H : Hp} {s s' : Shared}
/-- from a body: what a callee wants -/
theorem Inv.env0 (I : Inv X pins σ H s) : Env0 X.prog X.w X.K X.mg X.base X.A X.stack s H :=
  ⟨I.ok.frames, I.ok.mod, I.bs, Nat.le_trans I.ok.bsz I.sz, I.stack, I.stkFree, I.hok, I.bare⟩
/-- behind a call -/
theorem Inv.after {Q : VK} {u : Value} (I : Inv X pins σ H s) (h : CE X.stack X.prog X.w H s Q u s') : EP X pins σ Q u s' := by
  obtain ⟨v, H', os, bare, un, hok, r, q⟩ := h
  obtain ⟨hh, g, d, t, os'⟩ := s'
  obtain rfl : os' = s.os := os
  exact ⟨v, H', I.call (h' := hh) (g' := g) (d' := d) (t' := t) (ch := []) un hok bare (fun b z => absurd z (by simp)), r, q⟩
end

/-! ### calls -/
/-- f(..): the written arguments, then the defaults dvs; E: what is wanted of an exception -/
def tCall (sp : Sp) (dvs : List V) (E : XK) (t : TA) : TE := fun σ H Q => t σ H fun vs H1 => sp (vs ++ dvs) H1 Q E
/-- how the parameters are bound: us the positional arguments, kw the keywords' values by name, ds the defaults that fill up -/
def Binds (K : PySem.W.Frag) (fd : FuncData) (ps : List Str) (ds : List Value) : Prop :=
  ∀ (s : Shared) (us : List Value), K.In s.heap → (us ++ ds).length = ps.length → BindsTo s fd ⟨us, []⟩ (ps.zip (us ++ ds))
/-- every parameter is given -/
theorem Binds.all {K : PySem.W.Frag} {fd : FuncData} {ps : List Str} (h : ∀ us : List Value, us.length = ps.length → bindArgs fd ⟨us, []⟩ = pure (ps.zip us)) : Binds K fd ps [] := fun s us _ hl => by
  rw [List.append_nil] at hl ⊢
  exact .of_eq (h us hl)

/-- an exception of a callee reaches what this body wants of exceptions -/
def Passes (CX : CXT) (X : Cx) (E : XK) : Prop := ∀ (pins : List (Addr × Obj)) (σ : St) (H : Hp) (s : Shared) (e : Value) (s' : Shared), Inv X pins σ H s → CX X.stack H s E e s' → X.xe e s'

section
variable {X : Cx} {CX : CXT} {k : Nat} {f C : Addr} {fd : FuncData} {ps : List Str} {sp : Sp} {dvs : List V} {ds : List Value} {E : XK} {x m : Str} {p pos apos : Pos} {e o : Expr} {es : List Expr} {ta : TE} {t : TA}

/-- the callee runs -/
theorem run_fn {pins : List (Addr × Obj)} {σ : St} {H : Hp} {s : Shared} {Q : VK} {us : List Value} {vs : List V} (F : FnOk X.prog X.w X.K X.mg X.base CX k f fd ps sp) (hr : Room k X.A) (hb : Binds X.K fd ps ds) (hd : Vals dvs ds) (hx : Passes CX X E)
    (I : Inv X pins σ H s) (r : Vals vs us) (h : sp (vs ++ dvs) H Q E) : wpAny (model X.prog X.w) X.A (call (.ref f) us) (EP X pins σ Q) X.xe s := by
  have r2 : Vals (vs ++ dvs) (us ++ ds) := r.append hd
  have hl : (us ++ ds).length = ps.length := by rw [← r2.length]; exact F.len _ _ _ _ h
  refine wpAny_call (codeAny_mono (F.run X.A X.stack s H ⟨us, []⟩ (us ++ ds) (vs ++ dvs) Q E hr I.env0 (hb s us I.kIn hl) r2 h) fun r s' hq => ?_)
  cases r with
  | error e => exact hx pins σ H s e s' I hq
  | ok fl =>
    cases fl with
    | ret u => exact I.after hq
    | next => exact False.elim hq
    | brk => exact False.elim hq
    | cont => exact False.elim hq

theorem pe_call (F : FnOk X.prog X.w X.K X.mg X.base CX k f fd ps sp) (hr : Room k X.A) (hg : Gl X x) (hm : X.mg x = some (.ref f)) (hk : PySem.W.keepIn X.K (.ref f) = true) (hb : Binds X.K fd ps ds) (hd : Vals dvs ds) (hx : Passes CX X E)
    (ha : PA X (e :: es) t) (hdb : (x == ("__debug__" : Str)) = false := by decide) (he : starEach (e :: es) X.env = (false, eval e X.env) :: starEach es X.env := by rfl) (hpl : (backTo pos (starEach es X.env)).any (·.1) = false := by rfl) :
    PE X (.Call (.Name x p) (e :: es) [] pos) (tCall sp dvs E t) := by
  intro pins s σ H Q I h
  refine wpAny_Call_Name_kw (ld_glob I hg hm ?_ hdb)
  refine PySem.W.callWith_K (h₀ := X.base) I.ok.mod.kin hk (thn (ha pos pins s σ H _ I h) fun us s1 ⟨vs, H1, I1, r, q⟩ => ⟨I1.kIn, ?_⟩) he hpl
  exact run_fn F hr hb hd hx I1 r q
/-- what a class must have to be made -/
structure Mk (K : PySem.W.Frag) (C f : Addr) : Prop where
  makes : PySem.W.makesIn K C = true
  init : PySem.W.findIn K (.ref C) "__init__" = some (some (.ref f))
  fn : PySem.W.isFn K (.ref f) = true
  kp : PySem.W.keepIn K (.ref C) = true

end

/-! ### keywords -/
section
variable {X : Cx} {CX : CXT} {k : Nat} {f C : Addr} {fd : FuncData} {ps ks : List Str} {sp : Sp} {E : XK} {x m : Str} {p pos apos kpos : Pos} {e o : Expr} {es : List Expr} {kws : List Keyword} {te ta : TE} {t tk : TA} {nm : Option Str}
/-- how a call with keywords binds: g puts the positional values us and the keywords' values ws (names ks) in the parameters' order, defaults among them -/
structure KBinds (K : PySem.W.Frag) (fd : FuncData) (ps ks : List Str) (g : List Value → List Value → List Value) (gV : List V → List V → List V) : Prop where
  to : ∀ (s : Shared) (us ws : List Value), K.In s.heap → (g us ws).length = ps.length → BindsTo s fd ⟨us, ks.zip ws⟩ (ps.zip (g us ws))
  rel : ∀ {vs : List V} {us : List Value} {zs : List V} {ws : List Value}, Vals vs us → Vals zs ws → Vals (gV vs zs) (g us ws)
variable {g : List Value → List Value → List Value} {gV : List V → List V → List V}
end

/-! ### a def's body keeps its promise -/
/-- names: the parameters first -/
structure FnScope (N P : List Str) (sc : Scope) : Prop where
  kind : sc.kind = .function
  co : sc.isCoroutine = false
  gen : sc.isGenerator = false
  nd : N.Nodup
  pre : N.take P.length = P
  par : ∀ x ∈ P, sc.names.lookup x = some .local ∨ sc.names.lookup x = some .cell
  nofree : ∀ y ∈ sc.names, y.2 ≠ .free

theorem bindL_out {kindOf : Str → Option NameKind} {x : Str} : ∀ {binds : List (Str × Value)} {m : Str → Option Value}, (∀ v, (x, v) ∉ binds) → bindL kindOf binds m x = m x
  | [], _, _ => rfl
  | (n, v) :: r, m, h => by
    unfold bindL
    rw [bindL_out fun w hw => h w (List.mem_cons_of_mem _ hw)]
    split
    · have : x ≠ n := by rintro rfl; exact h v List.mem_cons_self
      simp [this]
    · rfl
theorem bindC_out {kindOf : Str → Option NameKind} {x : Str} : ∀ {binds : List (Str × Value)} {m : Str → Option Value}, (∀ v, (x, v) ∉ binds) → bindC kindOf binds m x = m x
  | [], _, _ => rfl
  | (n, v) :: r, m, h => by
    unfold bindC
    rw [bindC_out fun w hw => h w (List.mem_cons_of_mem _ hw)]
    split
    · rfl
    · have : x ≠ n := by rintro rfl; exact h v List.mem_cons_self
      simp [this]
theorem bindL_get {kindOf : Str → Option NameKind} {x : Str} {v : Value} : ∀ {P : List Str} {vs : List Value} {i : Nat} {m : Str → Option Value}, P.Nodup → P[i]? = some x → vs[i]? = some v → kindOf x = some .local →
    bindL kindOf (P.zip vs) m x = some v
  | [], _, _, _, _, h, _, _ => by simp at h
  | _ :: _, [], _, _, _, _, h, _ => by simp at h
  | p :: P, w :: vs, 0, m, nd, h1, h2, hk => by
    simp at h1 h2; subst h1; subst h2
    show bindL kindOf ((p, w) :: P.zip vs) m p = _
    unfold bindL
    rw [bindL_out fun v hv => (List.nodup_cons.mp nd).1 (List.of_mem_zip hv).1, if_pos hk]
    simp
  | p :: P, w :: vs, i + 1, m, nd, h1, h2, hk => by
    show bindL kindOf ((p, w) :: P.zip vs) m x = _
    unfold bindL
    exact bindL_get (i := i) (List.nodup_cons.mp nd).2 (by simpa using h1) (by simpa using h2) hk
theorem bindC_get {kindOf : Str → Option NameKind} {x : Str} {v : Value} : ∀ {P : List Str} {vs : List Value} {i : Nat} {m : Str → Option Value}, P.Nodup → P[i]? = some x → vs[i]? = some v → kindOf x ≠ some .local →
    bindC kindOf (P.zip vs) m x = some v
  | [], _, _, _, _, h, _, _ => by simp at h
  | _ :: _, [], _, _, _, _, h, _ => by simp at h
  | p :: P, w :: vs, 0, m, nd, h1, h2, hk => by
    simp at h1 h2; subst h1; subst h2
    show bindC kindOf ((p, w) :: P.zip vs) m p = _
    unfold bindC
    rw [bindC_out fun v hv => (List.nodup_cons.mp nd).1 (List.of_mem_zip hv).1, if_neg hk]
    simp
  | p :: P, w :: vs, i + 1, m, nd, h1, h2, hk => by
    show bindC kindOf ((p, w) :: P.zip vs) m x = _
    unfold bindC
    exact bindC_get (i := i) (List.nodup_cons.mp nd).2 (by simpa using h1) (by simpa using h2) hk

/-- the names' values at the entry -/
def start (N : List Str) (vs : List V) : St := vs.map some ++ List.replicate (N.length - vs.length) none

/-- the context of a def's body, at its entry; an exception leaves the frame, then lies as CX says -/
def cxOf (CX : CXT) (P : Program) (w : World) (K : PySem.W.Frag) (mg : Str → Option Value) (base : Heap) (N : List Str) (qual : Str) (scope : Scope) (f : Addr) (cd : Value) (A : Around) (outer : List Env) (s : Shared) (H : Hp) (E : XK) : Cx where
  prog := P
  w := w
  K := K
  mg := mg
  base := base
  A := A.deeper (envOfC qual scope s.heap.objs.size f cd)
  N := N
  s_0 := s
  H_0 := H
  env := envOfC qual scope s.heap.objs.size f cd
  outer := outer
  stack := envOfC qual scope s.heap.objs.size f cd :: outer
  ex := []
  calm := true
  fn := fun _ => true
  pn := []
  xe := fun e s' => wpAny (model P w) (A.deeper (envOfC qual scope s.heap.objs.size f cd)) (leaving (envOfC qual scope s.heap.objs.size f cd) e) (fun _ s'' => CX outer H s E e s'') (fun e' s'' => CX outer H s E e' s'') s'

theorem cell_has {sc : Scope} {n : Nat} {x : Str} (h : sc.names.lookup x = some .cell) : ∃ c, (cellsFrom n sc.names []).lookup x = some c := by
  have q := PySem.W.cellsFrom_some sc.names n [] (.inl h)
  exact Option.isSome_iff_exists.mp q

theorem inv_start {CX : CXT} {P : Program} {w : World} {K : PySem.W.Frag} {mg : Str → Option Value} {base : Heap} {N ps : List Str} {qual : Str} {scope : Scope} {f : Addr} {cd : Value} {A : Around} {outer : List Env} {s s1 : Shared} {H : Hp} {E : XK} {us : List Value} {vs : List V}
    (S : FnScope N ps scope) (hd : A.handled = none) (e0 : Env0 P w K mg base A outer s H) (hl : vs.length = ps.length) (r : Vals vs us)
    (x : InCallC s s.heap.objs.size (bindL (envOfC qual scope s.heap.objs.size f cd).kindOf (ps.zip us) fun _ => none) (cellsFrom (s.heap.objs.size + 1) scope.names []) (bindC (envOfC qual scope s.heap.objs.size f cd).kindOf (ps.zip us) fun _ => none) s1) :
    Inv (cxOf CX P w K mg base N qual scope f cd A outer s H E) [] (start N vs) H s1 := by
  have hpl : ps.length ≤ N.length := by have := congrArg List.length S.pre; rw [List.length_take] at this; omega
  obtain ⟨h1, tk, rfl, hk⟩ := x.done
  have noA : ∀ b : Addr, b ∉ (cxOf CX P w K mg base N qual scope f cd A outer s H E).ex := fun b z => absurd (show b ∈ ([] : List Addr) from z) (by simp)
  refine ⟨⟨e0.mod, S.kind, rfl, rfl, Nat.le_refl _, fun y z c h1 h2 => ?_, fun y hy => ?_, fun y c _ h => ?_, fun _ => hd, Around.frames_deeper e0.frames, .inr ⟨rfl, rfl⟩, fun b z => absurd z (noA b), e0.bs, e0.bsz, fun b _ _ => noA b, fun b z => absurd z (noA b), e0.funs, e0.frf⟩,
    rfl, e0.bare, Un.kept hk, ⟨_, x.toInCall.ns, fun i y v h1 h2 h3 => ?_⟩, fun y c h => ⟨_, x.cell y c h⟩, e0.hok.fresh (Nat.le_refl _), fun y c h => ?_, fun p hp => absurd (show p ∈ ([] : List (Addr × Obj)) from hp) (by simp), e0.hok.kept hk, ?_⟩
  · exact name_of_addr x.apart (PySem.mem_of_lookup h1) (PySem.mem_of_lookup h2)
  · have hy : scope.names.lookup y = some .cell ∨ scope.names.lookup y = some .free := hy
    rcases hy with hy | hy
    · exact cell_has hy
    · exact absurd rfl (S.nofree _ (PySem.mem_of_lookup hy))
  · exact Nat.le_of_lt (x.above y c (PySem.mem_of_lookup h))
  · have hi : i < vs.length := by
      unfold start at h2
      by_cases hi : i < vs.length
      · exact hi
      · rw [List.getElem?_append_right (by simpa using hi)] at h2
        rw [List.getElem?_replicate] at h2
        split at h2 <;> cases h2
    have ha : vs[i]? = some v := by
      unfold start at h2
      rw [List.getElem?_append_left (by simpa using hi), List.getElem?_map] at h2
      cases e : vs[i]? with
      | none => rw [e] at h2; cases h2
      | some a => rw [e] at h2; cases h2; rfl
    obtain ⟨u, hu, rv⟩ := r.get ha
    have hp : ps[i]? = some y := by
      rw [← S.pre, List.getElem?_take_of_lt (by omega)]; exact h1
    have ndP : ps.Nodup := by rw [← S.pre]; exact S.nd.sublist (List.take_sublist _ _)
    refine ⟨u, rv, ?_⟩
    rcases S.par y (List.mem_of_getElem? hp) with k | k
    · exact .inl ⟨k, bindL_get ndP hp hu k⟩
    · obtain ⟨c, e⟩ := cell_has (n := s.heap.objs.size + 1) k
      refine .inr ⟨.inl k, c, e, ?_⟩
      have q := x.cell y c e
      rw [bindC_get ndP hp hu (by show scope.names.lookup y ≠ _; rw [k]; decide)] at q
      exact q
  · exact e0.hok.fresh (Nat.le_of_lt (x.above y c (PySem.mem_of_lookup h)))
  · unfold start
    show _ = N.length
    rw [List.length_append, List.length_map, List.length_replicate]
    omega

/-- THE RULE: a def (or a method) of the text, by its body. The body's reading t is chosen for each entry; it is run at the parameters' values -/
theorem fn_of {CX : CXT} {P : Program} {w : World} {K : PySem.W.Frag} {mg : Str → Option Value} {base : Heap} {k : Nat} {f : Addr} {name qual : Str} {params : Arguments} {body : List Stmt} {scope : Scope} {dV kV doc pm cdv ct oc : Value} {an od : Option Addr}
    {osl : Array (Option Value)} {N ps : List Str} {sp : Sp} (lk : K.lookup f = some ⟨oc, od, .func (PySem.W.fnOf name qual params body scope dV kV doc pm an cdv ct), osl⟩) (hcd : PySem.W.codeIn K cdv qual = true) (S : FnScope N ps scope)
    (len : ∀ vs H Q E, sp vs H Q E → vs.length = ps.length)
    (hbody : ∀ (A : Around) (outer : List Env) (s : Shared) (H : Hp) (vs : List V) (Q : VK) (E : XK), Room k (A.deeper (envOfC qual scope s.heap.objs.size f cdv)) → sp vs H Q E →
      ∃ t, PSs (cxOf CX P w K mg base N qual scope f cdv A outer s H E) body t ∧ t { nx := fun _ H' => Q .non H', rt := Q } (start N vs) H) :
    FnOk P w K mg base CX (k + 1) f (PySem.W.fnOf name qual params body scope dV kV doc pm an cdv ct) ps sp := by
  refine ⟨len, fun A outer s H args us vs Q E hr e0 hb r hsp => ?_⟩
  have hl := len _ _ _ _ hsp
  have KX : K.In s.heap := e0.mod.kin.keeps fun b o e => (e0.bs b o e).1
  have lim : s.heap.NoLimit := e0.mod.nolimit.keeps fun b o e => (e0.bs b o e).1
  have hkind : ∀ y ∈ ps.zip us, scope.names.lookup y.1 = some .local ∨ (scope.names.lookup y.1 = some .cell ∧ ((cellsFrom (s.heap.objs.size + 1) scope.names []).lookup y.1).isSome = true) := fun ⟨n, v⟩ hy => by
    rcases S.par n (List.of_mem_zip hy).1 with q | q
    · exact .inl q
    · exact .inr ⟨q, PySem.W.cellsFrom_some _ _ _ (.inl q)⟩
  refine codeAny_call_function hr.depth (KX _ _ lk) rfl S.co S.gen rfl (PySem.W.codeRec_of KX hcd) (hb _ _ _ _ ?_)
  refine wpAny_newFunctionEnv_cells S.kind hkind fun env he s1 x => ?_
  subst he
  refine ⟨lim.keeps x.toInCall.keep, codeAny_func ?_⟩
  obtain ⟨t, ht, hq⟩ := hbody A outer s H vs Q E (hr.deeper _) hsp
  have I : Inv (cxOf CX P w K mg base N qual scope f cdv A outer s H E) [] (start N vs) H s1 := inv_start S hr.hd e0 hl r x
  refine wpAny_mono (ht [] s1 (start N vs) H _ I hq) (fun fl s' hs => ?_) fun e s' hs => hs
  have fin : ∀ {σ' : St} {H' : Hp} {v : V} {u : Value}, Inv (cxOf CX P w K mg base N qual scope f cdv A outer s H E) [] σ' H' s' → RelV v u → Q v H' → CE outer P w H s Q u s' :=
    fun {σ' H' v u} J rv q => ⟨v, H', J.os, J.bare, J.base, J.hok, rv, q⟩
  cases fl with
  | ret u =>
    obtain ⟨v, σ', H', J, rv, q⟩ := hs
    exact fin J rv q
  | next =>
    obtain ⟨σ', H', J, q⟩ := hs
    exact fin (v := V.non) (u := Value.none) J rfl q
  | brk =>
    obtain ⟨_, _, _, q⟩ := hs
    exact False.elim q
  | cont =>
    obtain ⟨_, _, _, q⟩ := hs
    exact False.elim q
end L2

namespace L2
open PySem PySem.Spec PyProof.Rows
section
variable {X : Cx} {x : Str} {p pos : Pos} {e : Expr} {es : List Expr} {t : TA} {id T : String} {r : List V → Hp → VK → Prop}

def tCB (r : List V → Hp → VK → Prop) (t : TA) : TE := fun σ H Q => t σ H fun vs H1 => r vs H1 Q
/-- f(e, ..), f a built-in function -/
theorem pe_callB (hc : CallR X (.builtin id) r) (hg : Gl X x) (hm : X.mg x = none) (hv : bootBuiltins x = some (.builtin id)) (ha : PA X (e :: es) t) (hn : x ≠ "__name__" := by decide) (hdb : (x == ("__debug__" : Str)) = false := by decide)
    (he : starEach (e :: es) X.env = (false, eval e X.env) :: starEach es X.env := by rfl) (hpl : (backTo pos (starEach es X.env)).any (·.1) = false := by rfl) : PE X (.Call (.Name x p) (e :: es) [] pos) (tCB r t) := by
  intro pins s σ H Q I h
  refine wpAny_Call_Name_kw (ld_blt I hg hm hv ?_ hn hdb)
  exact PyProof.Rows.callWith_builtin1 (thn (ha pos pins s σ H _ I h) fun us s1 ⟨vs, H1, I1, r1, q1⟩ => hc pins s1 σ H1 vs us Q I1 r1 q1) he hpl
/-- T(e, ..), T a built-in type -/
theorem pe_callTy (hc : CallR X (.type T) r) (hg : Gl X x) (hm : X.mg x = none) (hv : bootBuiltins x = some (.type T)) (ha : PA X (e :: es) t) (hn : x ≠ "__name__" := by decide) (hdb : (x == ("__debug__" : Str)) = false := by decide)
    (he : starEach (e :: es) X.env = (false, eval e X.env) :: starEach es X.env := by rfl) (hpl : (backTo pos (starEach es X.env)).any (·.1) = false := by rfl) : PE X (.Call (.Name x p) (e :: es) [] pos) (tCB r t) := by
  intro pins s σ H Q I h
  refine wpAny_Call_Name_kw (ld_blt I hg hm hv ?_ hn hdb)
  exact PyProof.Rows.callWith_type1 (thn (ha pos pins s σ H _ I h) fun us s1 ⟨vs, H1, I1, r1, q1⟩ => hc pins s1 σ H1 vs us Q I1 r1 q1) he hpl
end
end L2

namespace HT
open PySem PyProof.Rows

section
open PySem.SeqAt
open PySem.AutoSeq1 (wpAny_loadPart')
open PySem.MeetsSeq PySem.MeetsSeq2 PySem.MeetsSeq3

end

section
variable {prog : Program} {w : World} {A : Around} {E : Value → Shared → Prop} {s : Shared}

/-- t + u, t not empty -/
theorem cat_tup {t b : Addr} {vs ws : List Value} {Q : Value → Shared → Prop} (ht : IsTup s.heap t vs.toArray) (hb : IsTup s.heap b ws.toArray) (hv : vs ≠ [])
    (h1 : ws = [] → Q (.ref t) s) (h2 : ws ≠ [] → Q (.ref s.heap.objs.size) { s with heap := s.heap.push { cls := .type "tuple", data := .seq (vs ++ ws).toArray } })
    (hsz : vs.length + ws.length ≤ sizeLine) : wpAny (model prog w) A (binaryOp .Add (.ref t) (.ref b)) Q E s := by
  obtain ⟨⟨cls, dd, data, sl⟩, ho, hc, n, hd⟩ := id ht
  obtain ⟨⟨cls2, dd2, data2, sl2⟩, ho2, hc2, n2, hd2⟩ := id hb
  simp only at hc hd hc2 hd2
  subst hc hd hc2 hd2
  have e : vs.toArray ++ ws.toArray = (vs ++ ws).toArray := by simp
  by_cases hw : ws = []
  · exact concat_meets ⟨_, ho, rfl⟩ ⟨_, ho2, rfl⟩ noFill_tuple_add seq_tuple_add PySem.F.slot_tuple_add PySem.F.entry_tuple_add (PySem.F.args_tuple_add_2 _ _)
      (tuple_addW1 t b vs.toArray ws.toArray n n2 dd dd2 sl sl2 (by simpa using hv) (by simp [hw])) ⟨ho, ho2, h1 hw⟩
  · refine concat_meets ⟨_, ho, rfl⟩ ⟨_, ho2, rfl⟩ noFill_tuple_add seq_tuple_add PySem.F.slot_tuple_add PySem.F.entry_tuple_add (PySem.F.args_tuple_add_2 _ _)
      (tuple_addW2 t b vs.toArray ws.toArray n n2 dd dd2 sl sl2 (by simpa using hv) (by simpa using hw) (by rw [List.size_toArray, List.size_toArray]; exact hsz)) ⟨ho, ho2, ?_⟩
    rw [e]
    exact h2 hw

/-! ### t[a:b], not the whole -/
/-- a slice's bound as a place among n (d where it is left out) -/
def sIx (n d : Nat) : Option Int → Nat
  | none => d
  | some v => if v < 0 then (v + (n : Int)).toNat else min v.toNat n
theorem sIx_none (n d : Nat) : sIx n d none = d := rfl
theorem sIx_nat (n d k : Nat) : sIx n d (some (k : Int)) = min k n := by
  show (if (k : Int) < 0 then ((k : Int) + (n : Int)).toNat else min (k : Int).toNat n) = min k n
  rw [if_neg (by omega), Int.toNat_natCast]
theorem sIx_le (n d : Nat) (hd : d ≤ n) (o : Option Int) : sIx n d o ≤ n := by
  cases o with
  | none => exact hd
  | some v =>
    show (if v < 0 then (v + (n : Int)).toNat else min v.toNat n) ≤ n
    by_cases hv : v < 0
    · rw [if_pos hv]; omega
    · rw [if_neg hv]; exact Nat.min_le_right _ _
theorem clip_eq (v : Int) (n d : Nat) : (if v < 0 then max (v + (n : Int)) 0 else min v (n : Int)) = ((sIx n d (some v) : Nat) : Int) := by
  show (if v < 0 then max (v + (n : Int)) 0 else min v (n : Int)) = (((if v < 0 then (v + (n : Int)).toNat else min v.toNat n) : Nat) : Int)
  by_cases hv : v < 0
  · simp only [if_pos hv]; omega
  · simp only [if_neg hv]; omega
theorem adjust_gen (lo hi : Option Int) (n : Nat) : Builtin.Slice.sliceAdjust lo hi 1 (n : Int) = (((sIx n 0 lo : Nat) : Int), ((sIx n n hi : Nat) : Int)) := by
  have h1 : ¬ ((1 : Int) < 0) := by omega
  unfold Builtin.Slice.sliceAdjust
  simp only [h1, if_false]
  refine Prod.ext ?_ ?_
  · cases lo with
    | none => rfl
    | some v => exact clip_eq v n 0
  · cases hi with
    | none => rfl
    | some v => exact clip_eq v n n
theorem places_gen (i j : Nat) : Builtin.Slice.slicePlaces (i : Int) (j : Int) 1 = j - i := by
  unfold Builtin.Slice.slicePlaces
  have h1 : (1 : Int) > 0 := by omega
  simp only [h1, if_true, Int.ediv_one]
  split <;> omega
theorem slicePart_ {v : Value} {o : Option Int} {Q : Option Int → Shared → Prop} (p : IsPart v o) (h : Q o s) : wpAny (model prog w) A (Builtin.Slice.slicePartIndex v) Q E s := by
  cases p with
  | none => exact slicePart_none h
  | int i t => exact slicePart_int h
theorem sliceApplied_gen {sl : Addr} {vl vu : Value} {lo hi : Option Int} {n : Nat} {Q : Int × Int × Nat → Shared → Prop} (hs : s.heap.IsSliceOf sl vl vu .none) (pl : IsPart vl lo) (pu : IsPart vu hi)
    (h : Q (((sIx n 0 lo : Nat) : Int), 1, sIx n n hi - sIx n 0 lo) s) : wpAny (model prog w) A (Builtin.Slice.sliceApplied (.ref sl) (pure (n : Int))) Q E s := by
  obtain ⟨os, hos, hcs, hds⟩ := id hs
  unfold Builtin.Slice.sliceApplied Builtin.Slice.sliceFields
  refine wpAny_bind (wpAny_bind (wpAny_field hos hds (x := vl) rfl (wpAny_bind (wpAny_field hos hds (x := vu) rfl (wpAny_bind (wpAny_field hos hds (x := .none) rfl (wpAny_pure ?_)))))))
  refine wpAny_bind (slicePart_none ?_)
  show wpAny _ _ (if ((1 : Int) == 0) = true then _ else _) _ _ s
  rw [if_neg (by decide)]
  refine wpAny_bind (slicePart_ pl (wpAny_bind (slicePart_ pu (wpAny_bind (wpAny_pure ?_)))))
  show wpAny _ _ (match Builtin.Slice.sliceAdjust lo hi 1 (n : Int) with | (lo, hi) => pure (lo, (1 : Int), Builtin.Slice.slicePlaces lo hi 1)) _ _ s
  rw [adjust_gen lo hi n]
  show wpAny _ _ (pure (((sIx n 0 lo : Nat) : Int), (1 : Int), Builtin.Slice.slicePlaces ((sIx n 0 lo : Nat) : Int) ((sIx n n hi : Nat) : Int) 1)) _ _ s
  rw [places_gen]
  exact wpAny_pure h
theorem pick_gen (xs : Array Value) (i k : Nat) : ((List.range k).filterMap fun (m : Nat) => xs[((i : Int) + (m : Int) * 1).toNat]?).toArray = ((xs.toList.drop i).take k).toArray := by
  have e : (fun (m : Nat) => xs[((i : Int) + (m : Int) * 1).toNat]?) = fun m => xs[i + m]? := by
    funext m
    have : ((i : Int) + (m : Int) * 1).toNat = i + m := by omega
    rw [this]
  rw [e]
  have := pick_run xs i k
  rw [List.filterMap_map] at this
  have e2 : ((fun x => xs[x]?) ∘ fun x => i + x) = fun m => xs[i + m]? := rfl
  rw [e2] at this
  rw [this]

theorem getItem_tuple_cut {t sl : Addr} {items : Array Value} {vl vu : Value} {lo hi : Option Int} {Q : Value → Shared → Prop} (ht : IsTup s.heap t items) (hs : s.heap.IsSliceOf sl vl vu .none) (pl : IsPart vl lo) (pu : IsPart vu hi)
    (hw : ¬ (sIx items.size 0 lo = 0 ∧ sIx items.size items.size hi = items.size))
    (h : Q (.ref s.heap.objs.size) { s with heap := s.heap.push { cls := .type "tuple", data := .seq ((items.toList.drop (sIx items.size 0 lo)).take (sIx items.size items.size hi - sIx items.size 0 lo)).toArray } })
    (hsz : items.size ≤ sizeLine) : wpAny (model prog w) A (getItem (.ref t) (.ref sl)) Q E s := by
  have htake : sizeOk (.seq ((items.toList.drop (sIx items.size 0 lo)).take (sIx items.size items.size hi - sIx items.size 0 lo)).toArray) := by
    show ((items.toList.drop (sIx items.size 0 lo)).take (sIx items.size items.size hi - sIx items.size 0 lo)).toArray.size ≤ sizeLine
    rw [List.size_toArray, List.length_take, List.length_drop, Array.length_toList]
    omega
  have hj : sIx items.size items.size hi ≤ items.size := sIx_le _ _ (Nat.le_refl _) hi
  obtain ⟨os, hos, hcs, hds⟩ := id hs
  have hTs : s.TypeIs (.ref sl) "slice" := ⟨os, hos, hcs⟩
  unfold getItem
  try with_reducible refine wpAny_holding ?_
  first | refine wpAny_bind (wpAny_pure ?_) | skip
  refine wpAny_bind (wpAny_sequenceKey ht.typeIs (by decide) ?_)
  refine wpAny_bind (wpAny_callSpecial?_slot (name := Str.ofString "__getitem__") ht.typeIs PyProof.Rows.slot_tuple_getitem
    (wpAny_call_entry PyProof.Rows.slot_tuple_getitem ht.typeIs entry_tuple_getitem ?_ (args_tuple_getitem _ _)))
  show wpAny _ _ (Builtin.Tuple.tupleItemsOf (.ref t) >>= _) _ _ s
  refine wpAny_bind (tupleItemsOf_ ht ?_)
  refine wpAny_bind (wpAny_typeOf hTs ?_)
  rw [if_pos (by decide)]
  refine wpAny_bind (sliceApplied_gen hs pl pu ?_)
  have hno : ¬ ((((sIx items.size 0 lo : Nat) : Int) == 0 && (1 : Int) == 1 && (sIx items.size items.size hi - sIx items.size 0 lo) == items.size) = true) := by
    intro q
    rw [Bool.and_eq_true, Bool.and_eq_true] at q
    have q1 : ((sIx items.size 0 lo : Nat) : Int) = 0 := eq_of_beq q.1.1
    have q2 : sIx items.size items.size hi - sIx items.size 0 lo = items.size := eq_of_beq q.2
    exact hw ⟨by omega, by omega⟩
  show wpAny _ _ (if (((sIx items.size 0 lo : Nat) : Int) == 0 && (1 : Int) == 1 && (sIx items.size items.size hi - sIx items.size 0 lo) == items.size) = true then _ else _) _ _ s
  rw [if_neg hno, pick_gen]
  first
    | exact wpAny_bind (m := Builtin.Tuple.tupleExact _) (wpAny_newObj_type (wpAny_pure ⟨_, rfl, wpAny_pure h⟩) htake)
    | exact wpAny_bind (m := Builtin.Tuple.tupleExact _) (wpAny_newObj_type (wpAny_bind (wpAny_pure (wpAny_pure ⟨_, rfl, wpAny_pure h⟩))) htake)
    | exact wpAny_bind (wpAny_bind (m := Builtin.Tuple.tupleExact _) (wpAny_newObj_type (wpAny_pure (wpAny_pure ⟨_, rfl, wpAny_pure h⟩)) htake))
    | exact wpAny_bind (wpAny_bind (m := Builtin.Tuple.tupleExact _) (wpAny_newObj_type (wpAny_pure ⟨_, rfl, wpAny_pure h⟩) htake))
end
end HT

namespace L2
open PySem PySem.Spec PyProof.Rows

/-! ### the parts of a slice -/
abbrev TO := St → Hp → (Option Int → Hp → Prop) → Prop
/-- a slice's part (left out, or an int) -/
def PO (X : Cx) (e : Option Expr) (t : TO) : Prop :=
  ∀ (pins : List (Addr × Obj)) (s : Shared) (σ : St) (H : Hp) (Q : Option Int → Hp → Prop), Inv X pins σ H s → t σ H Q →
    wpAny (model X.prog X.w) X.A (evalPart e X.env) (fun u s' => ∃ o H', Inv X pins σ H' s' ∧ IsPart u o ∧ Q o H') X.xe s
def tNoPart : TO := fun _ H Q => Q none H
def tPart (t : TE) : TO := fun σ H Q => t σ H fun x H1 => ∃ i, x = .int i ∧ Q (some i) H1

section
variable {X : Cx} {e : Expr} {te : TE} {lo hi : Option Expr} {tl th : TO} {pos p2 : Pos}

theorem po_none : PO X none tNoPart := by
  intro pins s σ H Q I h
  rw [evalPart_none]
  exact wpAny_pure ⟨none, H, I, .none, h⟩
theorem po_some (h : PE X e te) : PO X (some e) (tPart te) := by
  intro pins s σ H Q I hw
  rw [evalPart_some]
  refine thn (h pins s σ H _ I hw) fun u s1 ⟨x, H1, I1, r1, q1⟩ => ?_
  obtain ⟨i, rfl, q⟩ := q1
  obtain ⟨t, rfl⟩ := r1
  exact ⟨some i, H1, I1, .int i t, q⟩

/-- what a slice of a value is, by values: the slice object stands at sl -/
def SlR (X : Cx) (r : V → Option Int → Option Int → Hp → VK → Prop) : Prop :=
  ∀ (pins : List (Addr × Obj)) (s : Shared) (σ : St) (H : Hp) (x : V) (v vl vu : Value) (lo hi : Option Int) (sl : Addr) (Q : VK), Inv X pins σ H s → RelV x v → s.heap.IsSliceOf sl vl vu .none → IsPart vl lo → IsPart vu hi → r x lo hi H Q →
    ∃ T id, typeLookup (.type T) "__getitem__" = pure (some (.builtin id)) ∧ s.TypeIs v T ∧ wpAny (model X.prog X.w) X.A (getItem v (.ref sl)) (EP X pins σ Q) X.xe s
theorem SlR.or {r r' : V → Option Int → Option Int → Hp → VK → Prop} (h : SlR X r) (h' : SlR X r') : SlR X (fun x lo hi H Q => r x lo hi H Q ∨ r' x lo hi H Q) := by
  intro pins s σ H x v vl vu lo hi sl Q I rx hs pl pu q
  rcases q with q | q
  · exact h pins s σ H x v vl vu lo hi sl Q I rx hs pl pu q
  · exact h' pins s σ H x v vl vu lo hi sl Q I rx hs pl pu q
def tSl (r : V → Option Int → Option Int → Hp → VK → Prop) (te : TE) (tl th : TO) : TE := fun σ H Q => te σ H fun x H1 => tl σ H1 fun l H2 => th σ H2 fun u H3 => r x l u H3 Q
/-- a[lo:hi], any a -/
theorem pe_slice {r : V → Option Int → Option Int → Hp → VK → Prop} (hr : SlR X r) (he : PE X e te) (hl : PO X lo tl) (hu : PO X hi th) : PE X (.Subscript e (.Slice lo hi none p2) pos) (tSl r te tl th) := by
  intro pins s σ H Q I h
  refine Subscript_ (thn (he pins s σ H _ I h) fun v s1 ⟨x, H1, I1, r1, q1⟩ => ?_)
  refine wpAny_Slice (thn (hl pins s1 σ H1 _ I1 q1) fun vl s2 ⟨l, H2, I2, pl, q2⟩ => thn (hu pins s2 σ H2 _ I2 q2) fun vu s3 ⟨u, H3, I3, pu, q3⟩ => ?_)
  rw [evalPart_none]
  refine wpAny_pure ?_
  have I4 : Inv X pins σ H3 { s3 with heap := s3.heap.push { cls := .type "slice", data := .fields #[vl, vu, .none] } } := I3.kept (t' := s3.toks) fun b ob q => Heap.get?_push_of_some _ q
  obtain ⟨T, id, hT, ht, hg⟩ := hr pins { s3 with heap := s3.heap.push { cls := .type "slice", data := .fields #[vl, vu, .none] } } σ H3 x v vl vu l u s3.heap.objs.size Q I4 r1 (Heap.IsSliceOf.new ..) pl pu q3
  show wpAny (model X.prog X.w) X.A (subscriptTail e (.Slice lo hi none p2) v (.ref s3.heap.objs.size)) (EP X pins σ Q) X.xe { s3 with heap := s3.heap.push { cls := .type "slice", data := .fields #[vl, vu, .none] } }
  exact tail_any (ops := [.ref s3.heap.objs.size, v]) ht hT hg (by with_unfolding_all rfl)

/-- the items of xs[lo:hi] -/
def cutV (xs : List V) (lo hi : Option Int) : List V := (xs.drop (HT.sIx xs.length 0 lo)).take (HT.sIx xs.length xs.length hi - HT.sIx xs.length 0 lo)
theorem cutV_length (xs : List V) (lo hi : Option Int) : (cutV xs lo hi).length ≤ xs.length := by
  unfold cutV
  rw [List.length_take, List.length_drop]
  omega
/-- t[lo:hi], not the whole of it (the whole would be t itself) -/
def rSlT (K : PySem.W.Frag) : V → Option Int → Option Int → Hp → VK → Prop := fun x lo hi H Q => ∃ a xs, x = .ref a ∧ SqT K H a xs ∧
  ¬ (HT.sIx xs.length 0 lo = 0 ∧ HT.sIx xs.length xs.length hi = xs.length) ∧ ∀ p, H p = none → Q (.ref p) (upd H p (.tup (cutV xs lo hi)))
theorem sl_tup : SlR X (rSlT X.K) := by
  intro pins s σ H x v vl vu lo hi sl Q I rx hs pl pu h
  obtain ⟨a, xs, rfl, hx, hw, q⟩ := h
  cases rx
  obtain ⟨its, r, ht, hz⟩ := I.tuple hx
  have hlen : its.toArray.size = xs.length := by rw [List.size_toArray]; exact r.length.symm
  refine ⟨"tuple", _, PyProof.Rows.slot_tuple_getitem.lookup, ht.typeIs, ?_⟩
  refine HT.getItem_tuple_cut ht hs pl pu (by rw [hlen]; exact hw) ?_ (by rw [hlen]; exact hz)
  rw [hlen]
  refine ⟨.ref s.heap.objs.size, _, I.laid (t' := s.toks) (o := .tup (cutV xs lo hi)) (fun b ob q => Heap.get?_push_of_some _ q) (Nat.le_refl _) ?_, rfl, q _ (I.hok.fresh (Nat.le_refl _))⟩
  exact ⟨Nat.le_trans (cutV_length xs lo hi) hz, _, (r.drop (HT.sIx xs.length 0 lo)).take (HT.sIx xs.length xs.length hi - HT.sIx xs.length 0 lo), IsTup.new _ _, _, Heap.get?_push_size _ rfl, rfl⟩

/-! ### t < u, t + u -/
/-- t + u, t not empty: u empty gives t itself -/
def rCatT (K : PySem.W.Frag) : R2 := fun x y H Q => ∃ a b xs ys, x = .ref a ∧ y = .ref b ∧ SqT K H a xs ∧ SqT K H b ys ∧ xs ≠ [] ∧ xs.length + ys.length ≤ sizeLine ∧
  (ys = [] → Q (.ref a) H) ∧ (ys ≠ [] → ∀ p, H p = none → Q (.ref p) (upd H p (.tup (xs ++ ys))))
theorem Vals.nil_iff {xs : List V} {us : List Value} (r : Vals xs us) : us = [] ↔ xs = [] := by
  cases r with
  | nil => simp
  | cons _ _ => simp
theorem op_catT : OpR X (binaryOp .Add) (rCatT X.K) := by
  intro pins s σ H x y v u Q I rx ry h
  obtain ⟨a, b, xs, ys, rfl, rfl, ha, hb, hx, hz, q1, q2⟩ := h
  cases rx
  cases ry
  obtain ⟨its, r1, p1, _⟩ := I.tuple ha
  obtain ⟨its2, r2, p2, _⟩ := I.tuple hb
  refine HT.cat_tup p1 p2 (fun z => hx (r1.nil_iff.mp z)) (fun z => ⟨.ref a, H, I, rfl, q1 (r2.nil_iff.mp z)⟩) (fun z => ?_) (by rw [← r1.length, ← r2.length]; exact hz)
  refine ⟨.ref s.heap.objs.size, _, I.laid (t' := s.toks) (o := .tup (xs ++ ys)) (fun b ob q => Heap.get?_push_of_some _ q) (Nat.le_refl _) ?_, rfl, q2 (fun w => z (r2.nil_iff.mpr w)) _ (I.hok.fresh (Nat.le_refl _))⟩
  exact ⟨by rw [List.length_append]; exact hz, _, r1.append r2, IsTup.new _ _, _, Heap.get?_push_size _ rfl, rfl⟩
end
end L2

namespace L2
open PySem PySem.Spec PyProof.Rows

/-! ### places -/
/-- the place that an index of any sign means -/
def ixN (n : Nat) (i : Int) : Option Nat := if 0 ≤ i then (if i < n then some i.toNat else none) else if -(n : Int) ≤ i then some (i + n).toNat else none
def atI {α : Type} (xs : List α) (i : Int) : Option α := (ixN xs.length i).bind fun j => xs[j]?
theorem ixN_seq {n : Nat} {i : Int} {j : Nat} (h : ixN n i = some j) : seqIndex? i n = some j ∧ j < n ∧ -(n : Int) ≤ i ∧ i < n := by
  unfold ixN at h
  by_cases h0 : 0 ≤ i
  · rw [if_pos h0] at h
    by_cases h1 : i < n
    · rw [if_pos h1] at h
      have e : i.toNat = j := Option.some.inj h
      exact ⟨by rw [seqIndex_of h0 h1, e], by omega, by omega, h1⟩
    · rw [if_neg h1] at h; cases h
  · rw [if_neg h0] at h
    by_cases h1 : -(n : Int) ≤ i
    · rw [if_pos h1] at h
      have e : (i + n).toNat = j := Option.some.inj h
      exact ⟨by rw [seqIndex_neg (by omega) h1, e], by omega, h1, by omega⟩
    · rw [if_neg h1] at h; cases h
theorem atI_get {α : Type} {xs : List α} {i : Int} {v : α} (h : atI xs i = some v) : ∃ j, seqIndex? i xs.length = some j ∧ xs[j]? = some v ∧ j < xs.length ∧ -(xs.length : Int) ≤ i ∧ i < xs.length := by
  unfold atI at h
  cases e : ixN xs.length i with
  | none => rw [e] at h; cases h
  | some j =>
    rw [e] at h
    obtain ⟨h1, h2, h3, h4⟩ := ixN_seq e
    exact ⟨j, h1, h, h2, h3, h4⟩
theorem atI_nat {α : Type} {xs : List α} {j : Nat} {v : α} (h : xs[j]? = some v) : atI xs (j : Int) = some v := by
  have hj : j < xs.length := (List.getElem?_eq_some_iff.mp h).1
  have e : ixN xs.length (j : Int) = some j := by
    unfold ixN
    rw [if_pos (by omega), if_pos (by omega)]; simp
  unfold atI; rw [e]; exact h
/-! ### what may be subscripted -/
/-- what stands as an index of a plain subscript -/
def PlainIx (b : Expr) : Prop := ∀ o i, subscripted b false o i = operate [o, i] (getItem o i)
/-- a subscript by values -/
def IxR (X : Cx) (r : R2) : Prop :=
  ∀ (value slice : Expr) (pins : List (Addr × Obj)) (s : Shared) (σ : St) (H : Hp) (x y : V) (v u : Value) (Q : VK), Inv X pins σ H s → RelV x v → RelV y u → r x y H Q →
    subscripted slice false v u = operate [v, u] (getItem v u) → wpAny (model X.prog X.w) X.A (subscriptTail value slice v u) (EP X pins σ Q) X.xe s
/-- a call of a builtin's method by values: the receiver, the arguments -/
def MtR (X : Cx) (id : String) (r : V → List V → Hp → VK → Prop) : Prop :=
  ∀ (pins : List (Addr × Obj)) (s : Shared) (σ : St) (H : Hp) (x : V) (xs : List V) (v : Value) (us : List Value) (Q : VK), Inv X pins σ H s → RelV x v → Vals xs us → r x xs H Q →
    wpAny (model X.prog X.w) X.A (call (.builtin id) (v :: us)) (EP X pins σ Q) X.xe s
section
variable {X : Cx} {a b : Expr} {ta tb : TE} {pos : Pos}
theorem IxR.or {r r' : R2} (h : IxR X r) (h' : IxR X r') : IxR X (fun x y H Q => r x y H Q ∨ r' x y H Q) := by
  intro value slice pins s σ H x y v u Q I rx ry q hs
  rcases q with q | q
  · exact h value slice pins s σ H x y v u Q I rx ry q hs
  · exact h' value slice pins s σ H x y v u Q I rx ry q hs
theorem MtR.or {id : String} {r r' : V → List V → Hp → VK → Prop} (h : MtR X id r) (h' : MtR X id r') : MtR X id (fun x xs H Q => r x xs H Q ∨ r' x xs H Q) := by
  intro pins s σ H x xs v us Q I rx rs q
  rcases q with q | q
  · exact h pins s σ H x xs v us Q I rx rs q
  · exact h' pins s σ H x xs v us Q I rx rs q
/-- a[b] -/
theorem pe_ix {r : R2} (hr : IxR X r) (ha : PE X a ta) (hb : PE X b tb) (hs : PlainIx b) : PE X (.Subscript a b pos) (tOp r ta tb) := by
  intro pins s σ H Q I h
  exact Subscript_ (binT ha hb I h fun v u s2 x y H2 I2 rx ry q => hr a b pins s2 σ H2 x y v u Q I2 rx ry q (hs _ _))

def rIxL (K : PySem.W.Frag) : R2 := fun x y H Q => ∃ p xs i v, x = .ref p ∧ y = .int i ∧ SqL K H p xs ∧ atI xs i = some v ∧ Q v H
def rIxT (K : PySem.W.Frag) : R2 := fun x y H Q => ∃ p xs i v, x = .ref p ∧ y = .int i ∧ SqT K H p xs ∧ atI xs i = some v ∧ Q v H
def rIxS : R2 := fun x y H Q => ∃ z i c, x = .str z ∧ y = .int i ∧ z.length ≤ sizeLine ∧ atI z.cps.toList i = some c ∧ Q (.str ⟨#[c]⟩) H
theorem ix_list : IxR X (rIxL X.K) := by
  intro value slice pins s σ H x y v u Q I rx ry h hs
  obtain ⟨p, xs, i, z, rfl, rfl, hq, he, q⟩ := h
  cases rx
  obtain ⟨t, rfl⟩ := ry
  obtain ⟨its, r, pl, hz⟩ := I.list hq
  obtain ⟨j, h1, h2, h3, h4, h5⟩ := atI_get he
  obtain ⟨w, ew, rw'⟩ := r.get h2
  have hl := r.length
  have hn := line63
  have fin : EP X pins σ Q w s := ⟨z, H, I, rw', q⟩
  by_cases h0 : 0 ≤ i
  · have hj : i.toNat = j := by
      rw [seqIndex_of h0 h5] at h1
      exact Option.some.inj h1
    exact item_listR pl.isList h0 (by omega) (by rw [hj]; simpa using ew) fin hs
  · have hj : (i + (its.toArray.size : Int)).toNat = j := by
      rw [seqIndex_neg (by omega) h4] at h1
      rw [List.size_toArray, ← hl]
      exact Option.some.inj h1
    exact subscriptTail_builtinR (x := w) pl.isList.typeIs slot_list_getitem.lookup
      (wpAny_getItem_list_neg (Q := fun r s' => r = w ∧ EP X pins σ Q r s') pl.isList (by omega) (by rw [List.size_toArray] <;> omega) (by omega) (by rw [hj]; simpa using ew) ⟨rfl, fin⟩) hs
theorem ix_tup : IxR X (rIxT X.K) := by
  intro value slice pins s σ H x y v u Q I rx ry h hs
  obtain ⟨p, xs, i, z, rfl, rfl, hq, he, q⟩ := h
  cases rx
  obtain ⟨t, rfl⟩ := ry
  obtain ⟨its, r, pl, hz⟩ := I.tuple hq
  obtain ⟨j, h1, h2, h3, h4, h5⟩ := atI_get he
  obtain ⟨w, ew, rw'⟩ := r.get h2
  have hl := r.length
  have hn := line63
  have fin : EP X pins σ Q w s := ⟨z, H, I, rw', q⟩
  exact subscriptTail_builtinR (x := w) pl.typeIs slot_tuple_getitem.lookup
    (getItem_tuple (j := j) (Q := fun r s' => r = w ∧ EP X pins σ Q r s') pl (by omega) (by omega) (by rw [List.size_toArray, ← hl]; exact h1) (by simpa using ew) ⟨rfl, fin⟩) hs
theorem ix_str : IxR X rIxS := by
  intro value slice pins s σ H x y v u Q I rx ry h hs
  obtain ⟨z, i, c, rfl, rfl, hz, he, q⟩ := h
  obtain ⟨t, rfl⟩ := rx
  obtain ⟨t', rfl⟩ := ry
  obtain ⟨j, h1, h2, h3, h4, h5⟩ := atI_get he
  have hl : z.cps.toList.length = z.length := by simp [Str.length]
  rw [hl] at h1 h4 h5
  have hn := line63
  exact tail_any (typeIs_str s z t) slot_str_getitem.lookup (getItem_str (c := c) (by
    have e1 : decide (i < -(2 ^ 63 : Int)) = false := decide_eq_false (by omega)
    have e2 : decide (i ≥ 2 ^ 63) = false := decide_eq_false (by omega)
    rw [e1, e2, Bool.or_false]) (by rw [h1]; simpa using h2) ⟨.str ⟨#[c]⟩, H, I.tok _, ⟨_, rfl⟩, q⟩) hs
/-- list, tuple or str -/
def rIx (K : PySem.W.Frag) : R2 := fun x y H Q => rIxL K x y H Q ∨ rIxT K x y H Q ∨ rIxS x y H Q
theorem ix_seq : IxR X (rIx X.K) := ix_list.or (ix_tup.or ix_str)

/-! ### xs[i] = v, any sign -/
/-- the list's object behind a store -/
theorem mapSeq_set (its : List Value) (n j : Nat) (u : Value) : Obj.mapSeq (·.setIfInBounds j u) { cls := .type "list", data := .seq its.toArray n } = { cls := .type "list", data := .seq (its.set j u).toArray n } := by
  simp [Obj.mapSeq]
theorem Inv.lst {pins : List (Addr × Obj)} {σ : St} {H : Hp} {s : Shared} {p : Addr} {xs : List V} (I : Inv X pins σ H s) (h : H p = some (.lst xs)) :
    ∃ (its : List Value) (n : Nat), Vals xs its ∧ s.heap.get? p = some { cls := .type "list", data := .seq its.toArray n } ∧ xs.length ≤ sizeLine := by
  obtain ⟨z, its, n, r, e⟩ := I.hok p _ h
  exact ⟨its, n, r, e, z⟩
/-- the list at p is written by an update of its object -/
theorem Inv.lstUpd {pins : List (Addr × Obj)} {σ : St} {H : Hp} {s : Shared} {p : Addr} {xs ys : List V} {its its' : List Value} {n n' : Nat} {f : Obj → Obj} (I : Inv X pins σ H s) (h : H p = some (.lst xs))
    (ho : s.heap.get? p = some { cls := .type "list", data := .seq its.toArray n }) (hf : f { cls := .type "list", data := .seq its.toArray n } = { cls := .type "list", data := .seq its'.toArray n' }) (r : Vals ys its') (hz : ys.length ≤ sizeLine) (t : Nat) :
    Inv X pins σ (upd H p (.lst ys)) { s with heap := s.heap.update p f, toks := t } := by
  have e : (s.heap.update p f).get? p = some { cls := .type "list", data := .seq its'.toArray n' } := by
    rw [Heap.get?_update_self f ho (by rw [hf] <;> rfl), hf]
  refine I.write (x := p) (e := p) (by rw [h]; trivial) (.inl rfl) (fun b u hb q => (Heap.get?_update_other _ _ (Ne.symm hb)).trans q) ⟨_, e⟩ ?_
  exact ⟨hz, its', n', r, e⟩
def rSetL : V → V → V → Hp → (Hp → Prop) → Prop := fun o i v H Q => ∃ p xs k j, o = .ref p ∧ i = .int k ∧ H p = some (.lst xs) ∧ ixN xs.length k = some j ∧ Q (upd H p (.lst (xs.set j v)))
theorem set_list : PSet X rSetL := by
  intro pins s σ H o i v ov iv u Q I ro ri rv h
  obtain ⟨p, xs, k, j, rfl, rfl, hp, hj, q⟩ := h
  cases ro
  obtain ⟨t, rfl⟩ := ri
  obtain ⟨its, n, r, ho, hz⟩ := I.lst hp
  obtain ⟨h1, h2, h3, h4⟩ := ixN_seq hj
  have hl := r.length
  have hn := line63
  have I' : Inv X pins σ (upd H p (.lst (xs.set j v))) { s with heap := s.heap.update p (Obj.mapSeq (·.setIfInBounds j u)) } :=
    I.lstUpd hp ho (mapSeq_set its n j u) (r.set rv j) (by rw [List.length_set]; exact hz) s.toks
  by_cases h0 : 0 ≤ k
  · have hk : k.toNat = j := by
      rw [seqIndex_of h0 h4] at h1
      exact Option.some.inj h1
    exact PySem.W.ki_setAt ho h0 (by omega) (by rw [List.size_toArray, ← hl]; exact h4) (by rw [hk]; exact ⟨_, I', q⟩)
  · have hk : (k + (its.toArray.size : Int)).toNat = j := by
      rw [seqIndex_neg (by omega) h3] at h1
      rw [List.size_toArray, ← hl]
      exact Option.some.inj h1
    exact PySem.W.ki_setBack ho (by omega) (by rw [List.size_toArray, ← hl]; exact h3) (by omega) (by rw [hk]; exact ⟨_, I', q⟩)

/-! ### slices -/
theorem slice_bounds (lo hi : Option Int) (n : Nat) : (sliceBounds lo hi none n).1 = ((HT.sIx n 0 lo : Nat) : Int) ∧ (sliceBounds lo hi none n).2.1 = ((HT.sIx n n hi : Nat) : Int) ∧ (sliceBounds lo hi none n).2.2 = 1 := by
  refine ⟨?_, ?_, rfl⟩
  · cases lo with
    | none => simp [sliceBounds, HT.sIx]
    | some i =>
      simp only [sliceBounds, HT.sIx, Option.getD_none, show (1 : Int) > 0 by decide, if_true]
      by_cases h : i < 0
      · simp only [h, if_true] <;> omega
      · simp only [h, if_false] <;> omega
  · cases hi with
    | none => simp [sliceBounds, HT.sIx]
    | some i =>
      simp only [sliceBounds, HT.sIx, Option.getD_none, show (1 : Int) > 0 by decide, if_true]
      by_cases h : i < 0
      · simp only [h, if_true] <;> omega
      · simp only [h, if_false] <;> omega
theorem slicePick_cut (its : List Value) (lo hi : Option Int) : slicePick its.toArray lo hi none = ((its.drop (HT.sIx its.length 0 lo)).take (HT.sIx its.length its.length hi - HT.sIx its.length 0 lo)).toArray := by
  obtain ⟨h1, h2, h3⟩ := slice_bounds lo hi its.toArray.size
  unfold slicePick
  rw [h1, h2, h3]
  simp only [sliceRange_one, pick_run, List.size_toArray] <;> rfl
/-- xs[lo:hi] of a list: a new list -/
def rSlL (K : PySem.W.Frag) : V → Option Int → Option Int → Hp → VK → Prop := fun x lo hi H Q => ∃ a xs, x = .ref a ∧ SqL K H a xs ∧ ∀ p, H p = none → Q (.ref p) (upd H p (.lst (cutV xs lo hi)))
theorem sl_list : SlR X (rSlL X.K) := by
  intro pins s σ H x v vl vu lo hi sl Q I rx hs pl pu h
  obtain ⟨a, xs, rfl, hx, q⟩ := h
  cases rx
  obtain ⟨its, r, ht, hz⟩ := I.list hx
  have hlen := r.length
  refine ⟨"list", _, slot_list_getitem.lookup, ht.isList.typeIs, ?_⟩
  refine wpAny_getItem_list_slice ht.isList hs pl pu .none (by simp) ?_ (by rw [List.size_toArray] <;> omega)
  rw [slicePick_cut, ← hlen]
  refine ⟨.ref s.heap.objs.size, _, I.laid (t' := s.toks) (o := .lst (cutV xs lo hi)) (fun b ob q => Heap.get?_push_of_some _ q) (Nat.le_refl _) ?_, rfl, q _ (I.hok.fresh (Nat.le_refl _))⟩
  exact ⟨Nat.le_trans (cutV_length xs lo hi) hz, _, 0, (r.drop (HT.sIx xs.length 0 lo)).take (HT.sIx xs.length xs.length hi - HT.sIx xs.length 0 lo), Heap.get?_push_size _ rfl⟩

/-! ### in, not in: flat items -/
/-! ### len, list(x), tuple(x) of any list or tuple that is read -/
theorem CallR.or {f : Value} {r r' : List V → Hp → VK → Prop} (h : CallR X f r) (h' : CallR X f r') : CallR X f (fun xs H Q => r xs H Q ∨ r' xs H Q) := by
  intro pins s σ H xs us Q I rs q
  rcases q with q | q
  · exact h pins s σ H xs us Q I rs q
  · exact h' pins s σ H xs us Q I rs q
theorem call_list_of : CallR X (.type "list") (fun xs H Q => ∃ p ys, xs = [.ref p] ∧ (SqL X.K H p ys ∨ SqT X.K H p ys) ∧ ∀ l, H l = none → Q (.ref l) (upd H l (.lst ys))) := by
  intro pins s σ H xs us Q I r h
  obtain ⟨p, ys, rfl, hq, q⟩ := h
  obtain ⟨u, rfl, rx⟩ := vals1 r
  cases rx
  have fin : ∀ (its : List Value), Vals ys its → ys.length ≤ sizeLine → ∀ (h' : Heap) (c' : Nat), (∀ b o', s.heap.get? b = some o' → h'.get? b = some o') →
      h'.get? s.heap.objs.size = some { cls := .type "list", dict := none, data := .seq its.toArray c', slots := #[] } → EP X pins σ Q (.ref s.heap.objs.size) { s with heap := h' } := fun its r' hz h' c' kp e =>
    ⟨.ref s.heap.objs.size, _, I.laid (t' := s.toks) kp (Nat.le_refl _) (show ObjOk X.prog X.w _ h' _ (.lst ys) from ⟨hz, its, c', r', e⟩), rfl, q _ (I.hok.fresh (Nat.le_refl _))⟩
  rcases hq with hq | hq
  · obtain ⟨its, r', pl, hz⟩ := I.list hq
    have hlen := r'.length
    obtain ⟨o, ho, hc, n, hd⟩ := pl.isList
    exact call_list_seq p (.inl rfl) ho hc hd (fun h' c' kp e => fin its r' hz h' c' kp e) (by simp only [List.size_toArray] <;> omega)
  · obtain ⟨its, r', pl, hz⟩ := I.tuple hq
    have hlen := r'.length
    obtain ⟨o, ho, hc, n, hd⟩ := pl
    exact call_list_seq p (.inr rfl) ho hc hd (fun h' c' kp e => fin its r' hz h' c' kp e) (by simp only [List.size_toArray] <;> omega)
theorem call_tuple_of : CallR X (.type "tuple") (fun xs H Q => ∃ p ys, xs = [.ref p] ∧ ((SqL X.K H p ys ∧ ∀ l, H l = none → Q (.ref l) (upd H l (.tup ys))) ∨ (SqT X.K H p ys ∧ Q (.ref p) H))) := by
  intro pins s σ H xs us Q I r h
  obtain ⟨p, ys, rfl, h⟩ := h
  obtain ⟨u, rfl, rx⟩ := vals1 r
  cases rx
  rcases h with ⟨hq, q⟩ | ⟨hq, q⟩
  · obtain ⟨its, r', pl, hz⟩ := I.list hq
    have hlen := r'.length
    refine call_tuple_list pl.isList (fun h' kp => ?_) (by simp only [List.size_toArray] <;> omega)
    have I1 : Inv X pins σ H { s with heap := h' } := I.kept (t' := s.toks) kp
    have I2 : Inv X pins σ (upd H h'.objs.size (.tup ys)) { s with heap := h'.push { cls := .type "tuple", data := .seq its.toArray } } :=
      I1.laid (t' := s.toks) (fun b o e => Heap.get?_push_of_some _ e) (Nat.le_refl _) (show ObjOk X.prog X.w _ _ _ (.tup ys) from ⟨hz, its, r', IsTup.new _ _, _, Heap.get?_push_size _ rfl, rfl⟩)
    exact ⟨.ref h'.objs.size, _, I2, rfl, q _ (I1.hok.fresh (Nat.le_refl _))⟩
  · obtain ⟨its, r', pl, hz⟩ := I.tuple hq
    exact call_tuple_same pl ⟨.ref p, H, I, rfl, q⟩

/-! ### the call of a builtin's method: o.m(..) -/
/-- the value is of that builtin type -/
def tyV (K : PySem.W.Frag) (T : String) (x : V) (H : Hp) : Prop := match x with
  | .str _ => T = "str"
  | .int _ => T = "int"
  | .ref p => (T = "list" ∧ ∃ xs, SqL K H p xs) ∨ (T = "tuple" ∧ ∃ o, K.lookup p = some o ∧ o.cls = .type "tuple" ∧ o.dict = none) ∨
      (T = "dict" ∧ ((∃ kvs, H p = some (.dK kvs)) ∨ ∃ kvs, H p = some (.dT kvs))) ∨ (T = "set" ∧ ∃ S n, H p = some (.set S n))
  | _ => False
theorem tyV_is {pins : List (Addr × Obj)} {σ : St} {H : Hp} {s : Shared} {T : String} {x : V} {v : Value} (I : Inv X pins σ H s) (r : RelV x v) (ty : tyV X.K T x H) :
    s.TypeIs v T ∧ ∀ a, v = .ref a → ∃ ob, s.heap.get? a = some ob ∧ ob.dict = none := by
  cases x with
  | str z =>
    obtain ⟨t, rfl⟩ := r
    cases (show T = "str" from ty)
    exact ⟨typeIs_str s z t, fun _ e => nomatch e⟩
  | int i =>
    obtain ⟨t, rfl⟩ := r
    cases (show T = "int" from ty)
    exact ⟨typeIs_int s i t, fun _ e => nomatch e⟩
  | ref p =>
    cases r
    rcases ty with ⟨rfl, xs, hq⟩ | ⟨rfl, o, hk, hc, hd⟩ | ⟨rfl, hk⟩ | ⟨rfl, S, n, hk⟩
    · obtain ⟨its, _, pl, _⟩ := I.list hq
      refine ⟨pl.isList.typeIs, fun a e => ?_⟩
      cases e
      obtain ⟨o, n, e, c, hd, _⟩ := pl
      exact ⟨o, e, hd⟩
    · refine ⟨⟨o, I.kIn p o hk, hc⟩, fun a e => ?_⟩
      cases e
      exact ⟨o, I.kIn _ o hk, hd⟩
    · have z : ∃ o, s.heap.get? p = some o ∧ o.ExactDict := by
        rcases hk with ⟨kvs, hk⟩ | ⟨kvs, hk⟩
        · obtain ⟨_, _, _, _, o, _, _, e, ex, _⟩ := I.hok p _ hk
          exact ⟨o, e, ex⟩
        · obtain ⟨_, _, _, _, o, _, _, e, ex, _⟩ := I.hok p _ hk
          exact ⟨o, e, ex⟩
      obtain ⟨o, e, ex⟩ := z
      refine ⟨⟨o, e, ex.1⟩, fun a e2 => ?_⟩
      cases e2
      exact ⟨o, e, ex.2.1⟩
    · obtain ⟨o, _, _, _, e, ex, _⟩ := I.hok p _ hk
      refine ⟨⟨o, e, ex.1⟩, fun a e2 => ?_⟩
      cases e2
      exact ⟨o, e, ex.2.1⟩
  | _ => exact False.elim ty
def tBM0 (K : PySem.W.Frag) (T : String) (r : V → List V → Hp → VK → Prop) (to : TE) : TE := fun σ H Q => to σ H fun x H1 => tyV K T x H1 ∧ r x [] H1 Q
def tBM (K : PySem.W.Frag) (T : String) (r : V → List V → Hp → VK → Prop) (to : TE) (t : TA) : TE := fun σ H Q => to σ H fun x H1 => tyV K T x H1 ∧ t σ H1 fun xs H2 => r x xs H2 Q
variable {o e : Expr} {es : List Expr} {to : TE} {t : TA} {name : Str} {apos cpos : Pos} {T id : String} {r : V → List V → Hp → VK → Prop}
theorem pe_bm0 (pa : PlainAttrs T) (slot : Slot T name id) (hty : typeOf (.builtin id) = pure (.type "method_descriptor")) (hm : MtR X id r) (ho : PE X o to)
    (hbase : attributeBase o name X.env (eval o X.env) = eval o X.env := by rfl) (hline : (apos.endLine == cpos.line) = true := by rfl) : PE X (.Call (.Attribute o name apos) [] [] cpos) (tBM0 X.K T r to) := by
  intro pins s σ H Q I h
  refine wpAny_Call_method0_late hbase hline (thn (ho pins s σ H _ I h) fun v s1 ⟨x, H1, I1, r1, ty, q1⟩ => ?_)
  obtain ⟨h1, h2⟩ := tyV_is I1 r1 ty
  exact ⟨T, id, pa, slot, hty, h1, h2, Calls.callWith_builtin rfl (PySem.evalArgs_none (hm pins s1 σ H1 x [] v [] Q I1 r1 .nil q1))⟩
theorem pe_bm (pa : PlainAttrs T) (slot : Slot T name id) (hty : typeOf (.builtin id) = pure (.type "method_descriptor")) (hm : MtR X id r) (ho : PE X o to) (ha : PA X (e :: es) t)
    (hbase : attributeBase o name X.env (eval o X.env) = eval o X.env := by rfl)
    (hfew : ((backTo cpos (starEach (e :: es) X.env)).all (fun x => !x.1) && (backToKw cpos (keywordEach [] X.env)).all (fun x => x.1.isSome)
      && decide ((e :: es).length + ([] : List Keyword).length + (if ([] : List Keyword).isEmpty then 0 else 1) < 30)) = true := by rfl)
    (hline : (apos.endLine == cpos.line) = true := by rfl) (hs : starEach (e :: es) X.env = (false, eval e X.env) :: starEach es X.env := by rfl) (hplain : (backTo cpos (starEach es X.env)).any (·.1) = false := by rfl) :
    PE X (.Call (.Attribute o name apos) (e :: es) [] cpos) (tBM X.K T r to t) := by
  intro pins s σ H Q I h
  refine wpAny_Call_method_late hbase hfew hline rfl (thn (ho pins s σ H _ I h) fun v s1 ⟨x, H1, I1, r1, ty, q1⟩ => ?_)
  obtain ⟨h1, h2⟩ := tyV_is I1 r1 ty
  refine ⟨T, id, pa, slot, hty, h1, h2, ?_⟩
  have hA := ha cpos pins s1 σ H1 _ I1 q1
  rw [hs] at hA ⊢
  refine Calls.callWith_builtin (by show (false || (backTo cpos (starEach es X.env)).any (·.1)) = false; rw [hplain] <;> rfl) (Calls.evalArgs_plain ?_)
  exact thn hA fun us s2 ⟨vs, H2, I2, r2, q2⟩ => hm pins s2 σ H2 x vs v us Q I2 r1 r2 q2
/- xs.append(e), list.index on a module's tuple .. are MtR facts of 06m -/
end
end L2

namespace L2
open PySem PySem.Spec PyProof.Rows

def MtM (X : Cx) (id : String) (r : V → List V → Hp → VK → Prop) : Prop :=
  ∀ (pins : List (Addr × Obj)) (s : Shared) (σ : St) (H : Hp) (x : V) (xs : List V) (v : Value) (us : List Value) (Q : VK), Inv X pins σ H s → RelV x v → Vals xs us → r x xs H Q →
    wpAny (model X.prog X.w) X.A (call (.builtin id) (v :: us)) (EP X pins σ Q) X.xe s

/-! ### lists of values -/
theorem Vals.one : ∀ {x : V} {us : List Value}, Vals [x] us → ∃ u, us = [u] ∧ RelV x u
  | _, _, .cons r .nil => ⟨_, rfl, r⟩
theorem Vals.zero : ∀ {us : List Value}, Vals [] us → us = []
  | _, .nil => rfl
theorem Vals.dropLast {xs : List V} {us : List Value} (h : Vals xs us) : Vals xs.dropLast us.dropLast := by
  induction h with
  | nil => exact .nil
  | cons r t ih =>
    cases t with
    | nil => exact .nil
    | cons q t' => exact .cons r ih
theorem Vals.eraseIdx : ∀ {xs : List V} {us : List Value} (i : Nat), Vals xs us → Vals (xs.eraseIdx i) (us.eraseIdx i)
  | _, _, _, .nil => .nil
  | _, _, 0, .cons _ t => t
  | _, _, i + 1, .cons r t => .cons r (Vals.eraseIdx i t)
theorem Vals.reverse {xs : List V} {us : List Value} (h : Vals xs us) : Vals xs.reverse us.reverse := by
  induction h with
  | nil => exact .nil
  | cons r t ih => rw [List.reverse_cons, List.reverse_cons]; exact Vals.append ih (.cons r .nil)
theorem Vals.rep {xs : List V} {us : List Value} (h : Vals xs us) : ∀ k : Nat, Vals (List.replicate k xs).flatten (List.replicate k us).flatten
  | 0 => .nil
  | k + 1 => by
    rw [List.replicate_succ, List.replicate_succ, List.flatten_cons, List.flatten_cons]
    exact Vals.append h (Vals.rep h k)
theorem erase_last {α : Type} (l : List α) : l.eraseIdx (l.length - 1) = l.dropLast := by
  induction l with
  | nil => rfl
  | cons a r ih =>
    cases r with
    | nil => rfl
    | cons b r =>
      have e : (a :: b :: r).length - 1 = ((b :: r).length - 1) + 1 := by
        have h1 : (a :: b :: r).length = r.length + 2 := rfl
        have h2 : (b :: r).length = r.length + 1 := rfl
        omega
      rw [e, List.eraseIdx_cons_succ, ih]
      all_goals rfl
theorem foldl_rep (its : List Value) : ∀ (k : Nat) (acc : List Value),
    List.foldl (fun x1 x2 => x1 ++ x2) acc.toArray (List.replicate k its.toArray) = (acc ++ (List.replicate k its).flatten).toArray
  | 0, acc => by simp
  | k + 1, acc => by
    have e : acc.toArray ++ its.toArray = (acc ++ its).toArray := by simp
    have e2 : (acc ++ its) ++ (List.replicate k its).flatten = acc ++ (List.replicate (k + 1) its).flatten := by
      rw [List.replicate_succ, List.flatten_cons, List.append_assoc]
    rw [← e2, ← foldl_rep its k (acc ++ its), ← e, List.replicate_succ, List.foldl_cons]

section
variable {X : Cx} {pins : List (Addr × Obj)} {σ : St} {H : Hp} {s : Shared} {l b : Addr} {xs ys zs : List V}

/-! ### the two steps: a tracked list is rewritten, a new list is laid -/
theorem Inv.lset {its its' : List Value} {n : Nat} {f : Array Value → Array Value} {t' : Nat} (I : Inv X pins σ H s) (hH : H l = some (.lst xs))
    (e : s.heap.get? l = some { cls := .type "list", data := .seq its.toArray n }) (hf : f its.toArray = its'.toArray) (hv : Vals ys its') (hz : ys.length ≤ sizeLine) :
    Inv X pins σ (upd H l (.lst ys)) { s with heap := s.heap.update l (Obj.mapSeq f), toks := t' } := by
  have q := PySem.IsL.update e f
  rw [hf] at q
  refine I.write (x := l) (e := l) (by rw [hH]; exact trivial) (.inl rfl) (fun b' u hb hu => (Heap.get?_update_other s.heap (Obj.mapSeq f) (Ne.symm hb)).trans hu) ⟨_, q⟩ ?_
  exact ⟨hz, its', _, hv, q⟩
theorem Inv.lnew {its : List Value} {t' : Nat} (I : Inv X pins σ H s) (hv : Vals ys its) (hz : ys.length ≤ sizeLine) :
    Inv X pins σ (upd H s.heap.objs.size (.lst ys)) { s with heap := s.heap.push { cls := .type "list", data := .seq its.toArray }, toks := t' } :=
  I.laid (fun _ _ q => Heap.get?_push_of_some _ q) (Nat.le_refl _) ⟨hz, its, 0, hv, Heap.get?_push_size _ rfl⟩
theorem Inv.fresh (I : Inv X pins σ H s) : H s.heap.objs.size = none := I.hok.fresh (Nat.le_refl _)
theorem Inv.lstM (I : Inv X pins σ H s) (hH : H l = some (.lst xs)) : xs.length ≤ sizeLine ∧ ∃ (its : List Value) (n : Nat), Vals xs its ∧ xs.length = its.length ∧ s.heap.get? l = some { cls := .type "list", data := .seq its.toArray n } := by
  obtain ⟨z, its, n, r, e⟩ := I.hok l _ hH
  exact ⟨z, its, n, r, r.length, e⟩

theorem notLongL {n : Nat} (h : n ≤ sizeLine) : Builtin.List.listTooLong n = false := by
  unfold Builtin.List.listTooLong
  exact decide_eq_false (by omega)
end

section
variable {X : Cx}

/-! ### methods -/
def rAppend : V → List V → Hp → VK → Prop := fun x vs H Q => ∃ l xs y, x = .ref l ∧ vs = [y] ∧ H l = some (.lst xs) ∧ xs.length < sizeLine ∧ Q .non (upd H l (.lst (xs ++ [y])))
theorem mt_append : MtM X "list.append" rAppend := by
  intro pins s σ H x vs v us Q I rx rv h
  obtain ⟨l, xs, y, rfl, rfl, hH, hz, q⟩ := h
  cases rx
  obtain ⟨u, rfl, ru⟩ := rv.one
  obtain ⟨z, its, n, r, hl, e⟩ := I.lstM hH
  refine call_meets F.slot_list_append ⟨_, e, rfl⟩ F.entry_list_append (F.args_list_append_2 _ _) (PySem.list_append l its.toArray n u (by rw [List.size_toArray]; omega)) ⟨e, ?_⟩
  refine ⟨.non, _, I.lset (its' := its ++ [u]) hH e (by simp) (r.append (.cons ru .nil)) ?_, rfl, q⟩
  rw [List.length_append, List.length_singleton]
  omega

def rPop : V → List V → Hp → VK → Prop := fun x vs H Q => ∃ l xs y, x = .ref l ∧ vs = [] ∧ H l = some (.lst xs) ∧ xs[xs.length - 1]? = some y ∧ Q y (upd H l (.lst xs.dropLast))
theorem mt_pop : MtM X "list.pop" rPop := by
  intro pins s σ H x vs v us Q I rx rv h
  obtain ⟨l, xs, y, rfl, rfl, hH, hy, q⟩ := h
  cases rx
  have hus := rv.zero
  subst hus
  obtain ⟨z, its, n, r, hl, e⟩ := I.lstM hH
  obtain ⟨u, hu, ru⟩ := r.get hy
  have hy' : its.toArray[its.toArray.size - 1]? = some u := by
    show its.toArray[its.length - 1]? = some u
    rw [← Array.getElem?_toList, ← hl]
    exact hu
  refine call_meets F.slot_list_pop ⟨_, e, rfl⟩ F.entry_list_pop (F.args_list_pop_1 _) (MeetsSeq.list_pop_last l its.toArray n u hy' (by rw [List.size_toArray]; omega)) ⟨e, ?_⟩
  refine ⟨y, _, I.lset (its' := its.dropLast) hH e ?_ r.dropLast ?_, ru, q⟩
  · show its.toArray.eraseIdxIfInBounds (its.toArray.size - 1) = its.dropLast.toArray
    rw [List.size_toArray, List.eraseIdxIfInBounds_toArray, erase_last]
  · rw [List.length_dropLast]
    omega

/-! ### list + list, list += list, list * int -/
def rCat : R2 := fun x y H Q => ∃ l b xs zs, x = .ref l ∧ y = .ref b ∧ H l = some (.lst xs) ∧ H b = some (.lst zs) ∧ xs.length + zs.length ≤ sizeLine ∧ ∀ p, H p = none → Q (.ref p) (upd H p (.lst (xs ++ zs)))
theorem op_cat : OpR X (binaryOp .Add) rCat := by
  intro pins s σ H x y v u Q I rx ry h
  obtain ⟨l, b, xs, zs, rfl, rfl, hH, hB, hz, q⟩ := h
  cases rx
  cases ry
  obtain ⟨z, its, n, r, hl, e⟩ := I.lstM hH
  obtain ⟨z2, its2, n2, r2, hl2, e2⟩ := I.lstM hB
  refine PySem.P.add_list e e2 ?_ (by rw [List.size_toArray, List.size_toArray]; omega)
  have ea : its.toArray ++ its2.toArray = (its ++ its2).toArray := by simp
  rw [ea]
  exact ⟨.ref _, _, I.lnew (t' := s.toks) (r.append r2) (by rw [List.length_append]; omega), rfl, q _ I.fresh⟩
/-- a list times an int (a negative one is nothing) -/
def rRep : R2 := fun x y H Q => ∃ l k xs, x = .ref l ∧ y = .int k ∧ H l = some (.lst xs) ∧ -(2 ^ 63) ≤ k ∧ k < 2 ^ 63 ∧ xs.length * k.toNat ≤ sizeLine ∧
  ∀ p, H p = none → Q (.ref p) (upd H p (.lst (List.replicate k.toNat xs).flatten))
theorem len_rep {α : Type} (xs : List α) (k : Nat) : (List.replicate k xs).flatten.length = k * xs.length := by
  induction k with
  | zero => simp
  | succ k ih => rw [List.replicate_succ, List.flatten_cons, List.length_append, ih, Nat.succ_mul, Nat.add_comm]
theorem op_rep : OpR X (binaryOp .Mult) rRep := by
  intro pins s σ H x y v u Q I rx ry h
  obtain ⟨l, k, xs, rfl, rfl, hH, h1, h2, hz, q⟩ := h
  cases rx
  obtain ⟨t, rfl⟩ := ry
  obtain ⟨z, its, n, r, hl, e⟩ := I.lstM hH
  have hlen : its.toArray.size * k.toNat ≤ sizeLine := by rw [List.size_toArray, ← hl]; exact hz
  have hcap : ¬ its.toArray.size * k.toNat > (2 ^ 63 - 1) / 8 := by
    have : (sizeLine : Nat) ≤ (2 ^ 63 - 1) / 8 := by decide
    omega
  have hfit : ¬ (!Builtin.List.listFitsIndex k) = true := by
    rw [fitsIndex_both h1 h2]
    exact Bool.false_ne_true
  have hlong : ¬ Builtin.List.listTooLong (its.toArray.size * k.toNat) = true := by
    rw [notLongL hlen]
    exact Bool.false_ne_true
  have hnew : List.foldl (fun x1 x2 => x1 ++ x2) #[] (List.replicate (if its.toArray.isEmpty = true then 0 else k.toNat) its.toArray) = (List.replicate k.toNat its).flatten.toArray := by
    have f0 : ∀ m : Nat, List.foldl (fun x1 x2 => x1 ++ x2) #[] (List.replicate m its.toArray) = (List.replicate m its).flatten.toArray := fun m => by
      have := foldl_rep its m []
      rw [List.nil_append] at this
      exact this
    rw [f0]
    cases its with
    | nil => simp
    | cons a r' => rw [if_neg (by simp)]
  refine wpAny_binaryOp_repeat_ref (T := "list") (U := "int") (by decide) ⟨_, e, rfl⟩ (fun s' => typeIs_int s' k t) noFill_list_mul F.fills_int_mul F.slot_int_rmul repeat_list F.slot_int_index.lookup
    (call_meets F.slot_int_rmul (typeIs_int s k t) F.entry_int_rmul (F.args_int_rmul_2 _ _) (int___rmul___int_list k t l its.toArray n)
      ⟨e, rfl, ⟨_, e, rfl⟩, call_meets F.slot_list_mul ⟨_, e, rfl⟩ F.entry_list_mul (F.args_list_mul_2 _ _) (AutoListH.list___mul___list_int_3 l its.toArray n k t hfit hcap hlong) ⟨e, ?_⟩⟩)
  rw [hnew]
  exact ⟨.ref _, _, I.lnew (t' := s.toks) (r.rep k.toNat) (by rw [len_rep, Nat.mul_comm]; exact hz), rfl, q _ I.fresh⟩

/-! ### del xs[i] -/
end

/-! ### xs[a:b] = ys -/
section
variable {prog : Program} {w : World} {A : Around} {E : Value → Shared → Prop} {s : Shared}
end

section
variable {X : Cx}
end
end L2

namespace L2
open PySem PySem.Spec PyProof.Rows

theorem Vals.ints : ∀ {ns : List Int} {us : List Value}, Vals (ns.map V.int) us → IntsAre us ns
  | [], us, h => by
    rw [List.map_nil] at h
    cases h
    exact IntsAre.nil
  | n :: ns, us, h => by
    rw [List.map_cons] at h
    cases h with
    | cons r t =>
      obtain ⟨k, rfl⟩ := r
      exact IntsAre.cons n k (Vals.ints t)
theorem Vals.strs : ∀ {xs : List Str} {us : List Value}, Vals (xs.map V.str) us → StrsAre us xs
  | [], us, h => by
    rw [List.map_nil] at h
    cases h
    exact StrsAre.nil
  | x :: xs, us, h => by
    rw [List.map_cons] at h
    cases h with
    | cons r t =>
      obtain ⟨k, rfl⟩ := r
      exact StrsAre.cons x k (Vals.strs t)
theorem Vals.ref1 {a : Addr} {us : List Value} (r : Vals [V.ref a] us) : us = [Value.ref a] := by
  cases r with
  | cons r t =>
    cases t
    cases r
    rfl
/-! ### the library's walks over a list of ints, kept objects alone -/
section
variable {prog : Program} {w : World} {A : Around} {E : Value → Shared → Prop} {s : Shared} {l : Addr} {its : List Value} {ns : List Int} {Q : Value → Shared → Prop}
theorem sum_raw (hh : A.handled = none) (hl : s.heap.IsList l its.toArray) (hi : IntsAre its ns)
    (h : ∀ h' tk t', (∀ b o, s.heap.get? b = some o → h'.get? b = some o) → Q (.int ns.sum t') { s with heap := h', toks := tk }) : wpAny (model prog w) A (call (.builtin "sum") [.ref l]) Q E s := by
  obtain ⟨xs, e⟩ := hi.allInts.items
  have hn : numsOf (intItems xs).toList = ns := by rw [← e]; exact hi.numsOf
  rw [nums_intItems] at hn
  rw [e] at hl
  refine PySem.sum_intListG hh hl fun h' tk t' hk => ?_
  have := h h' tk t' hk
  rw [preSum_eq, List.take_of_length_le (by simp), hn]; exact this
end

/-! ### the calls, by values (CallR of 03t; MtR of 06l) -/
section
variable {X : Cx}
/-- sum(xs) of a list of ints -/
def rSum (K : PySem.W.Frag) : List V → Hp → VK → Prop := fun vs H Q => ∃ (a : Addr) (ns : List Int), vs = [V.ref a] ∧ SqL K H a (ns.map V.int) ∧ Q (.int ns.sum) H
theorem cr_sum (hc : X.calm = true) : CallR X (.builtin "sum") (rSum X.K) := by
  intro pins s σ H vs us Q I r h
  obtain ⟨a, ns, rfl, hs, q⟩ := h
  obtain ⟨its, rv, hl, _⟩ := I.list hs
  rw [Vals.ref1 r]
  exact sum_raw (I.ok.hd hc) hl.isList rv.ints fun h' tk t' hk => ⟨.int _, H, I.kept hk, ⟨_, rfl⟩, q⟩
/-! sorted, sort (fewer than 64 items: the library's own bound) -/
end

/-! ### list.index, flat items -/
section
variable {X : Cx}
end

/-! ### type(x) of an own instance; is, is not of a module's class -/
section
variable {X : Cx}
end

/-! ### any(xs), all(xs) of a list of bools -/
section
variable {X : Cx}
end

/-! ### == and != of data at any depth: none, bools, ints, texts, lists, tuples -/
mutual
inductive Dp (K : PySem.W.Frag) (H : Hp) : V → PyData → Prop
  | non : Dp K H .non .none
  | bl (b : Bool) : Dp K H (.bl b) (.bool b)
  | int (i : Int) : Dp K H (.int i) (.int i)
  | str (x : Str) : Dp K H (.str x) (.str x)
  | lst {a : Addr} {xs : List V} {ds : List PyData} : SqL K H a xs → DpAll K H xs ds → Dp K H (.ref a) (.list ds)
  | tup {a : Addr} {xs : List V} {ds : List PyData} : SqT K H a xs → DpAll K H xs ds → Dp K H (.ref a) (.tuple ds)
inductive DpAll (K : PySem.W.Frag) (H : Hp) : List V → List PyData → Prop
  | nil : DpAll K H [] []
  | cons {v : V} {vs : List V} {d : PyData} {ds : List PyData} : Dp K H v d → DpAll K H vs ds → DpAll K H (v :: vs) (d :: ds)
end
section
variable {X : Cx} {pins : List (Addr × Obj)} {σ : St} {H : Hp} {s : Shared}
mutual
theorem Dp.reads (I : Inv X pins σ H s) : ∀ (d : PyData) (v : V) (u : Value), Dp X.K H v d → RelV v u → ∃ as, Reads s.heap u d as
  | .none, _, _, h, r => by
    cases h
    cases r
    exact ⟨_, Reads.none⟩
  | .bool b, _, _, h, r => by
    cases h
    cases r
    exact ⟨_, Reads.bool b⟩
  | .int i, _, _, h, r => by
    cases h
    obtain ⟨t, rfl⟩ := r
    exact ⟨_, Reads.int i t⟩
  | .str x, _, _, h, r => by
    cases h
    obtain ⟨t, rfl⟩ := r
    exact ⟨_, Reads.str x t⟩
  | .list ds, _, _, h, r => by
    cases h with
    | lst hs ha =>
      cases r
      obtain ⟨its, rv, ⟨o, n, ho, hc, _, hd⟩, _⟩ := I.list hs
      obtain ⟨as, hr⟩ := Dp.readsAll I ds _ its ha rv
      exact ⟨_, Reads.list ho hc hd hr⟩
  | .tuple ds, _, _, h, r => by
    cases h with
    | tup hs ha =>
      cases r
      obtain ⟨its, rv, ⟨o, ho, hc, n, hd⟩, _⟩ := I.tuple hs
      obtain ⟨as, hr⟩ := Dp.readsAll I ds _ its ha rv
      exact ⟨_, Reads.tuple ho hc hd hr⟩
  | .dict _, _, _, h, _ => by cases h
theorem Dp.readsAll (I : Inv X pins σ H s) : ∀ (ds : List PyData) (vs : List V) (us : List Value), DpAll X.K H vs ds → Vals vs us → ∃ as, ReadsAll s.heap us ds as
  | [], _, _, h, r => by
    cases h
    cases r
    exact ⟨_, ReadsAll.nil⟩
  | d :: ds, _, _, h, r => by
    cases h with
    | cons h1 h2 =>
      cases r with
      | cons r1 r2 =>
        obtain ⟨as, q1⟩ := Dp.reads I d _ _ h1 r1
        obtain ⟨bs, q2⟩ := Dp.readsAll I ds _ _ h2 r2
        exact ⟨_, ReadsAll.cons q1 q2⟩
end
end
section
variable {X : Cx}
def rEqD (K : PySem.W.Frag) : R2 := fun x y H Q => ∃ d e, Dp K H x d ∧ Dp K H y e ∧ SeqAt.shaped d = true ∧ SeqAt.shaped e = true ∧ Q (.bl (PyData.eqv d e)) H
def rNeD (K : PySem.W.Frag) : R2 := fun x y H Q => ∃ d e, Dp K H x d ∧ Dp K H y e ∧ SeqAt.shaped d = true ∧ SeqAt.shaped e = true ∧ Q (.bl (!PyData.eqv d e)) H
theorem op_eqD (hu : X.A.units + 64 < cLine) : OpR X (compareOp .Eq) (rEqD X.K) := by
  intro pins s σ H x y v u Q I rx ry h
  obtain ⟨d, e, hd, he, sd, se, q⟩ := h
  obtain ⟨as, r1⟩ := Dp.reads I d x v hd rx
  obtain ⟨bs, r2⟩ := Dp.reads I e y u he ry
  exact SeqAt.compareEq_shaped r1 r2 sd se hu ⟨.bl _, H, I, rfl, q⟩
theorem op_neD (hu : X.A.units + 64 < cLine) : OpR X (compareOp .NotEq) (rNeD X.K) := by
  intro pins s σ H x y v u Q I rx ry h
  obtain ⟨d, e, hd, he, sd, se, q⟩ := h
  obtain ⟨as, r1⟩ := Dp.reads I d x v hd rx
  obtain ⟨bs, r2⟩ := Dp.reads I e y u he ry
  exact SeqAt.compareNe_shaped r1 r2 sd se hu ⟨.bl _, H, I, rfl, q⟩
end
end L2

namespace L2
open PySem PySem.Spec PyProof.Rows
abbrev CellAt (h : Heap) (c : Addr) (v : Option Value) : Prop := h.IsCell c v
def relS (scope sc : Scope) : Scope :=
  { scope with names := scope.names.map fun (n, k) => if (k == .free && sc.kind == .function && sc.names.lookup n == some .cell) then (n, .cell) else (n, k) }

def cloFrom (cells : List (Str × Addr)) : List (Str × NameKind) → List (Str × Addr) → List (Str × Addr)
  | [], acc => acc
  | (n, k) :: r, acc => if k == .free then cloFrom cells r ((n, (cells.lookup n).getD 0) :: acc) else cloFrom cells r acc

theorem closure_loop (env : Env) (f : Str × NameKind → List (Str × Addr) → Sem (ForInStep (List (Str × Addr))))
    (hf : ∀ n k c, f (n, k) c = if k == .free then (do let a ← cellOf env n; pure (.yield ((n, a) :: c))) else pure (.yield c)) :
    ∀ (names : List (Str × NameKind)) (acc : List (Str × Addr)), (∀ y ∈ names, y.2 = .free → ∃ c, env.cells.lookup y.1 = some c) → forIn names acc f = pure (cloFrom env.cells names acc)
  | [], acc, _ => by rw [List.forIn_nil]; rfl
  | (n, k) :: r, acc, h => by
    rw [List.forIn_cons, hf]
    have ih := fun acc => closure_loop env f hf r acc fun y hy => h y (List.mem_cons_of_mem _ hy)
    unfold cloFrom
    by_cases hk : (k == NameKind.free) = true
    · rw [if_pos hk, if_pos hk]
      obtain ⟨c, hc⟩ := h (n, k) List.mem_cons_self (by simpa using hk)
      have e : cellOf env n = pure c := by unfold cellOf; rw [hc]
      rw [e]
      have e2 : (env.cells.lookup n).getD 0 = c := by rw [hc]; rfl
      rw [e2]
      exact ih _
    · rw [if_neg hk, if_neg hk]
      exact ih _
theorem closure_ok {scope : Scope} {env : Env} (h : ∀ y ∈ scope.names, y.2 = .free → ∃ c, env.cells.lookup y.1 = some c) : closureFor scope env = pure (cloFrom env.cells scope.names []) := by
  simp only [closureFor]
  rw [closure_loop env _ (fun n k c => rfl) scope.names [] h]
  rfl

theorem mem_lookup {α : Type} : ∀ {l : List (Str × α)} {n : Str} {c : α}, (n, c) ∈ l → ∃ c', l.lookup n = some c'
  | (k, v) :: r, n, c, h => by
    rw [List.lookup_cons]
    cases hb : n == k with
    | true => exact ⟨_, rfl⟩
    | false =>
      rcases List.mem_cons.mp h with e | h
      · cases e; simp at hb
      · exact mem_lookup h

theorem cloFrom_mem {cells : List (Str × Addr)} : ∀ {names : List (Str × NameKind)} {acc : List (Str × Addr)} {n : Str} {c : Addr}, (n, c) ∈ cloFrom cells names acc → (n, c) ∈ acc ∨ ((n, .free) ∈ names ∧ c = (cells.lookup n).getD 0)
  | [], _, _, _, h => .inl h
  | (m, k) :: r, acc, n, c, h => by
    unfold cloFrom at h
    split at h
    · rename_i hk
      have hk : k = .free := by simpa using hk
      rcases cloFrom_mem h with h | ⟨h1, h2⟩
      · rcases List.mem_cons.mp h with e | h
        · cases e; exact .inr ⟨hk ▸ List.mem_cons_self, rfl⟩
        · exact .inl h
      · exact .inr ⟨List.mem_cons_of_mem _ h1, h2⟩
    · rcases cloFrom_mem h with h | ⟨h1, h2⟩
      · exact .inl h
      · exact .inr ⟨List.mem_cons_of_mem _ h1, h2⟩
theorem cloFrom_acc {cells : List (Str × Addr)} : ∀ {names : List (Str × NameKind)} {acc : List (Str × Addr)} {p : Str × Addr}, p ∈ acc → p ∈ cloFrom cells names acc
  | [], _, _, h => h
  | (m, k) :: r, acc, p, h => by
    unfold cloFrom
    split
    · exact cloFrom_acc (List.mem_cons_of_mem _ h)
    · exact cloFrom_acc h
theorem cloFrom_has {cells : List (Str × Addr)} : ∀ {names : List (Str × NameKind)} {acc : List (Str × Addr)} {n : Str}, (n, .free) ∈ names → (n, (cells.lookup n).getD 0) ∈ cloFrom cells names acc
  | (m, k) :: r, acc, n, h => by
    unfold cloFrom
    rcases List.mem_cons.mp h with e | h
    · cases e
      exact cloFrom_acc List.mem_cons_self
    · split
      · exact cloFrom_has h
      · exact cloFrom_has h

theorem cells_mem : ∀ {names : List (Str × NameKind)} {h : Heap} {acc : List (Str × Addr)} {x : Str} {c : Addr}, (x, c) ∈ cellsFrom h.objs.size names acc →
    (x, c) ∈ acc ∨ ((x, .cell) ∈ names ∧ h.objs.size ≤ c ∧ CellAt (pushCells h names) c none)
  | [], _, _, _, _, h => .inl h
  | (n, k) :: r, h, acc, x, c, hm => by
    unfold cellsFrom at hm
    unfold pushCells
    split at hm
    · rename_i hk
      rw [if_pos hk]
      have hk : k = .cell := by simpa using hk
      rw [← Heap.size_push h { cls := .type "cell", data := .cell none }] at hm
      rcases cells_mem hm with hm | ⟨h1, h2, h3⟩
      · rcases List.mem_cons.mp hm with e | hm
        · cases e
          exact .inr ⟨hk ▸ List.mem_cons_self, Nat.le_refl _, _, pushCells_keeps r _ _ _ (Heap.get?_push_size _ rfl), rfl⟩
        · exact .inl hm
      · rw [Heap.size_push] at h2
        exact .inr ⟨List.mem_cons_of_mem _ h1, Nat.le_of_succ_le h2, h3⟩
    · rename_i hk
      rw [if_neg hk]
      rcases cells_mem hm with hm | ⟨h1, h2, h3⟩
      · exact .inl hm
      · exact .inr ⟨List.mem_cons_of_mem _ h1, h2, h3⟩
theorem cells_acc : ∀ {names : List (Str × NameKind)} {n : Nat} {acc : List (Str × Addr)} {p : Str × Addr}, p ∈ acc → p ∈ cellsFrom n names acc
  | [], _, _, _, h => h
  | (m, k) :: r, n, acc, p, h => by
    unfold cellsFrom
    split
    · exact cells_acc (List.mem_cons_of_mem _ h)
    · exact cells_acc h
theorem cells_has : ∀ {names : List (Str × NameKind)} {n : Nat} {acc : List (Str × Addr)} {x : Str}, (x, .cell) ∈ names → ∃ c, (x, c) ∈ cellsFrom n names acc
  | (m, k) :: r, n, acc, x, h => by
    unfold cellsFrom
    rcases List.mem_cons.mp h with e | h
    · cases e
      exact ⟨n, cells_acc List.mem_cons_self⟩
    · split
      · exact cells_has h
      · exact cells_has h
theorem cells_inj : ∀ {names : List (Str × NameKind)} {h : Heap} {acc : List (Str × Addr)} {x y : Str} {c : Addr}, (∀ p ∈ acc, p.2 < h.objs.size) → (∀ x y c, (x, c) ∈ acc → (y, c) ∈ acc → x = y) →
    (x, c) ∈ cellsFrom h.objs.size names acc → (y, c) ∈ cellsFrom h.objs.size names acc → x = y
  | [], _, _, _, _, _, _, hi, h1, h2 => hi _ _ _ h1 h2
  | (n, k) :: r, h, acc, x, y, c, hl, hi, h1, h2 => by
    unfold cellsFrom at h1 h2
    split at h1
    · rename_i hk
      rw [if_pos hk] at h2
      rw [← Heap.size_push h { cls := .type "cell", data := .cell none }] at h1 h2
      refine cells_inj (h := h.push _) (fun p hp => ?_) (fun x y c a b => ?_) h1 h2
      · rw [Heap.size_push]
        rcases List.mem_cons.mp hp with rfl | hp
        · exact Nat.lt_succ_self _
        · exact Nat.lt_succ_of_lt (hl p hp)
      · rcases List.mem_cons.mp a with e | a <;> rcases List.mem_cons.mp b with e' | b
        · cases e; cases e'; rfl
        · cases e; exact absurd (hl _ b) (Nat.lt_irrefl _)
        · cases e'; exact absurd (hl _ a) (Nat.lt_irrefl _)
        · exact hi _ _ _ a b
    · rename_i hk
      rw [if_neg hk] at h2
      exact cells_inj hl hi h1 h2

theorem newEnv_comp {M : Model} {A : Around} {E : Value → Shared → Prop} {s : Shared} {scope : Scope} {globals : Addr} {closure : List (Str × Addr)} {qual : Str} {func : Option Addr} {code : Value} {around : Env} {builtins : Addr} {Q : Env → Shared → Prop}
    (h : Q (newEnv scope s.heap.objs.size globals (cellsFrom (s.heap.objs.size + 1) scope.names closure) qual func code (some around) builtins)
      { s with heap := pushCells (s.heap.push { cls := .type "dict", data := .dict #[] }) scope.names }) :
    wpAny M A (newFunctionEnv scope globals closure [] qual func code (some around) builtins) Q E s := by
  simp only [newFunctionEnv, Option.isSome_some, if_true]
  refine wpAny_bind (wpAny_alloc ?_)
  refine wpAny_bind (wpAny_layCells _ (fun n k c => rfl) scope.names closure _ _ ?_)
  rw [show ({ s with heap := s.heap.push { cls := .type "dict", data := .dict #[] } } : Shared).heap.objs.size = s.heap.objs.size + 1 from Heap.size_push ..]
  rw [List.forIn_nil]
  exact wpAny_bind (wpAny_pure (wpAny_pure h))

/-- every name of the written scope, in the scope that runs -/
theorem lookup_relS {sc : Scope} : ∀ {names : List (Str × NameKind)} {x : Str} {k : NameKind},
    (names.map fun (n, k) => if (k == NameKind.free && sc.kind == .function && sc.names.lookup n == some .cell) then (n, NameKind.cell) else (n, k)).lookup x = some k →
    ∃ k', names.lookup x = some k' ∧ (k = k' ∨ (k' = .free ∧ k = .cell))
  | [], _, _, h => by simp at h
  | (n, k₀) :: r, x, k, h => by
    have ih := @lookup_relS sc r x k
    have h' : List.lookup x ((if (k₀ == NameKind.free && sc.kind == .function && sc.names.lookup n == some .cell) = true then (n, NameKind.cell) else (n, k₀)) :: (r.map _)) = some k := h
    cases hx : x == n with
    | true =>
      simp only [List.lookup_cons, hx]
      by_cases hc : (k₀ == NameKind.free && sc.kind == .function && sc.names.lookup n == some .cell) = true
      · rw [if_pos hc] at h'
        simp only [List.lookup_cons, hx] at h'
        cases h'
        simp only [Bool.and_eq_true, beq_iff_eq] at hc
        exact ⟨k₀, rfl, .inr ⟨hc.1.1, rfl⟩⟩
      · rw [if_neg hc] at h'
        simp only [List.lookup_cons, hx] at h'
        cases h'
        exact ⟨_, rfl, .inl rfl⟩
    | false =>
      simp only [List.lookup_cons, hx]
      by_cases hc : (k₀ == NameKind.free && sc.kind == .function && sc.names.lookup n == some .cell) = true
      · rw [if_pos hc] at h'
        simp only [List.lookup_cons, hx] at h'
        exact ih h'
      · rw [if_neg hc] at h'
        simp only [List.lookup_cons, hx] at h'
        exact ih h'
/-- the names of a comprehension's block: its own (with their places in N), or captured -/
structure BlkOk (N : List Str) (sc scope : Scope) (own : List (Str × Nat)) : Prop where
  kind : scope.kind = .function
  uniq : ∀ y ∈ scope.names, scope.names.lookup y.1 = some y.2
  ix : ∀ p ∈ own, N[p.2]? = some p.1
  free : ∀ y ∈ scope.names, y.2 = .free → sc.names.lookup y.1 = some .cell ∨ sc.names.lookup y.1 = some .free
  own : ∀ y ∈ scope.names, y.2 = .local ∨ y.2 = .cell → y.1 ∈ own.map (·.1) ∨ y.1 ∉ N
/-- the slots of the block's own names forgotten -/
def wipe (σ : St) : List Nat → St
  | [] => σ
  | v :: vs => (wipe σ vs).set v none
theorem wipe_length (σ : St) : ∀ vs : List Nat, (wipe σ vs).length = σ.length
  | [] => rfl
  | v :: vs => by unfold wipe; rw [List.length_set, wipe_length σ vs]
theorem wipe_some {σ : St} {i : Nat} {x : V} : ∀ {vs : List Nat}, (wipe σ vs)[i]? = some (some x) → σ[i]? = some (some x) ∧ i ∉ vs
  | [], h => ⟨h, by simp⟩
  | v :: vs, h => by
    unfold wipe at h
    by_cases hi : v = i
    · subst hi
      by_cases hv : v < (wipe σ vs).length
      · rw [List.getElem?_set_self hv] at h; cases h
      · rw [List.getElem?_eq_none (by simpa using hv)] at h; cases h
    · rw [List.getElem?_set_ne hi] at h
      obtain ⟨h1, h2⟩ := wipe_some h
      exact ⟨h1, by simp only [List.mem_cons, not_or]; exact ⟨fun e => hi e.symm, h2⟩⟩

/-- the context of a block that starts at s, its iterator's objects at fp -/
abbrev Cx.blk (X : Cx) (s : Shared) (H : Hp) (scope : Scope) (cenv : Env) (fp : List Addr) : Cx := { X with s_0 := s, H_0 := H, env := cenv, outer := X.stack, ex := fp, fn := fun x => scope.names.lookup x == some .cell, pn := [], xe := fun _ _ => False }
section
variable {X : Cx} {pins : List (Addr × Obj)} {σ : St} {H : Hp} {s : Shared}
theorem block_start {scope : Scope} {own : List (Str × Nat)} {fp : List Addr} (I : Inv X pins σ H s) (ok : BlkOk X.N X.env.scope scope own) (hN : X.N.Nodup) (hfp : ∀ b ∈ fp, FpOk X pins H b ∧ b < s.heap.objs.size) :
    Inv (X.blk s H scope (compEnvC scope (cellsFrom (s.heap.objs.size + 1) scope.names (cloFrom X.env.cells scope.names [])) s.heap.objs.size X.env) fp) [] (wipe σ (own.map (·.2))) H { s with heap := pushCells (s.heap.push { cls := .type "dict", data := .dict #[] }) scope.names } := by
  have hfree : ∀ y ∈ scope.names, y.2 = .free → ∃ c, X.env.cells.lookup y.1 = some c := fun y hy e => by
    rcases ok.free y hy e with k | k
    · exact I.ok.has _ (.inl k)
    · exact I.ok.has _ (.inr k)
  generalize hcenv : compEnvC scope (cellsFrom (s.heap.objs.size + 1) scope.names (cloFrom X.env.cells scope.names [])) s.heap.objs.size X.env = cenv
  have kp : ∀ b o, s.heap.get? b = some o → (pushCells (s.heap.push { cls := .type "dict", data := .dict #[] }) scope.names).get? b = some o := fun b o e => pushCells_keeps _ _ _ _ (Heap.get?_push_of_some _ e)
  have hL : cenv.locals = s.heap.objs.size := by rw [← hcenv]; rfl
  have hcl : cenv.cells = cellsFrom (s.heap.objs.size + 1) scope.names (cloFrom X.env.cells scope.names []) := by rw [← hcenv]; rfl
  have hsc : cenv.scope = relS scope X.env.scope := by rw [← hcenv]; rfl
  rw [← Heap.size_push s.heap { cls := .type "dict", data := .dict #[] }] at hcl
  have cm : ∀ {y c}, (y, c) ∈ cloFrom X.env.cells scope.names [] → X.env.cells.lookup y = some c ∧ c < s.heap.objs.size := fun {y c} hm => by
    rcases cloFrom_mem hm with hm | ⟨h1, rfl⟩
    · cases hm
    · obtain ⟨c, hc⟩ := hfree _ h1 rfl
      rw [hc]
      obtain ⟨w, z⟩ := I.cell _ _ hc
      exact ⟨rfl, z.lt⟩
  have mem : ∀ {y c}, cenv.cells.lookup y = some c → (X.env.cells.lookup y = some c ∧ c < s.heap.objs.size) ∨ (s.heap.objs.size + 1 ≤ c ∧ CellAt (pushCells (s.heap.push { cls := .type "dict", data := .dict #[] }) scope.names) c none) := fun {y c} e => by
    rw [hcl] at e
    rcases cells_mem (PySem.mem_of_lookup e) with hm | ⟨_, h2, h3⟩
    · exact .inl (cm hm)
    · rw [Heap.size_push] at h2; exact .inr ⟨h2, h3⟩
  have look : ∀ {y}, scope.names.lookup y = some .free → ∃ c, cenv.cells.lookup y = some c ∧ X.env.cells.lookup y = some c := fun {y} hl => by
    have hy : (y, NameKind.free) ∈ scope.names := PySem.mem_of_lookup hl
    obtain ⟨c', e'⟩ := mem_lookup (cells_acc (names := scope.names) (n := (s.heap.push { cls := .type "dict", data := .dict #[] }).objs.size) (cloFrom_has (cells := X.env.cells) (acc := []) hy))
    rw [← hcl] at e'
    refine ⟨c', e', ?_⟩
    rw [hcl] at e'
    rcases cells_mem (PySem.mem_of_lookup e') with hm | ⟨h1, _, _⟩
    · exact (cm hm).1
    · have := ok.uniq _ h1
      rw [hl] at this; cases this
  have okB : (X.blk s H scope cenv fp).Ok := by
    refine ⟨I.ok.mod, by show cenv.scope.kind = _; rw [hsc]; exact ok.kind, by show cenv.globals = _; rw [← hcenv]; exact I.ok.glob, by show cenv.builtins = _; rw [← hcenv]; exact I.ok.blt, by show s.heap.objs.size ≤ cenv.locals; rw [hL]; exact Nat.le_refl _,
      fun y z c e1 e2 => ?_, fun y hy => ?_, fun y c z e => ?_, I.ok.hd, I.ok.frames, .inl rfl, fun b hb => ⟨?_, fun y c e z => ?_⟩, I.bs, Nat.le_trans I.ok.bsz I.sz, fun b o e hb => ?_, fun b hb z => ?_, I.stack, I.stkFree⟩
    · have e1 : cenv.cells.lookup y = some c := e1
      have e2 : cenv.cells.lookup z = some c := e2
      rw [hcl] at e1 e2
      refine cells_inj (fun p hp => ?_) (fun y z c a b => I.ok.inj y z c (cm a).1 (cm b).1) (PySem.mem_of_lookup e1) (PySem.mem_of_lookup e2)
      rw [Heap.size_push]
      exact Nat.lt_succ_of_lt (cm (y := p.1) (c := p.2) hp).2
    · show ∃ c, cenv.cells.lookup y = some c
      have key : ∀ k, cenv.kindOf y = some k → (k = .cell ∨ k = .free) → ∃ c, cenv.cells.lookup y = some c := fun k hk hk' => by
        unfold Env.kindOf at hk
        rw [hsc] at hk
        obtain ⟨k', e, r⟩ := lookup_relS hk
        have : k' = .cell ∨ k' = .free := by
          rcases r with rfl | ⟨rfl, _⟩
          · exact hk'
          · exact .inr rfl
        rcases this with rfl | rfl
        · obtain ⟨c, hm⟩ := cells_has (n := (s.heap.push { cls := .type "dict", data := .dict #[] }).objs.size) (acc := cloFrom X.env.cells scope.names []) (PySem.mem_of_lookup e)
          obtain ⟨c', e'⟩ := mem_lookup hm
          exact ⟨c', by rw [hcl]; exact e'⟩
        · obtain ⟨c, h1, _⟩ := look e
          exact ⟨c, h1⟩
      rcases hy with hy | hy
      · exact key _ hy (.inl rfl)
      · exact key _ hy (.inr rfl)
    · have z : (scope.names.lookup y == some NameKind.cell) = true := z
      have z : scope.names.lookup y = some .cell := by simpa using z
      have e : cenv.cells.lookup y = some c := e
      rw [hcl] at e
      rcases cells_mem (PySem.mem_of_lookup e) with hm | ⟨_, h2, _⟩
      · rcases cloFrom_mem hm with hm | ⟨h1, _⟩
        · cases hm
        · have q := ok.uniq _ h1
          rw [z] at q; cases q
      · rw [Heap.size_push] at h2
        exact Nat.le_of_succ_le h2
    · show b ≠ cenv.locals
      rw [hL]; exact Nat.ne_of_lt (hfp b hb).2
    · have e : cenv.cells.lookup y = some c := e
      rcases mem e with ⟨h1, _⟩ | ⟨h1, _⟩
      · exact (hfp b hb).1.2.2.2.2.1 y c h1 z
      · have h2 : s.heap.objs.size + 1 ≤ b := by rw [← z]; exact h1
        exact absurd (Nat.lt_of_lt_of_le (hfp b hb).2 (Nat.le_of_succ_le h2)) (Nat.lt_irrefl _)
    · rcases (hfp b hb).1.2.2.2.1 with z | z
      · exact I.ok.noex b o e z
      · exact absurd (Nat.lt_of_lt_of_le (Heap.lt_size e) (Nat.le_trans I.ok.bsz z)) (Nat.lt_irrefl _)
    · rcases List.mem_cons.mp (I.stkSub b z) with z | z
      · exact (hfp b hb).1.2.1 z
      · exact (hfp b hb).1.2.2.1 z
  refine ⟨okB, rfl, I.bare, Un.kept kp, ⟨fun _ => none, ?_, fun i y av e1 e2 e3 => ?_⟩, fun y c e => ?_, ?_, fun y c e => ?_, fun p hp => ?_, I.hok.kept kp, by rw [wipe_length]; exact I.len⟩
  · show Heap.Ns _ cenv.locals _
    rw [hL]
    exact Heap.Ns.keeps (Heap.Ns.new ..) fun b o e => pushCells_keeps _ _ _ _ e
  · obtain ⟨e2, hne⟩ := wipe_some e2
    have hfr : scope.names.lookup y = some .free ∧ (cenv.kindOf y = some .cell ∨ cenv.kindOf y = some .free) := by
      have key : ∀ k, cenv.scope.names.lookup y = some k → k = .local ∨ k = .cell ∨ k = .free → scope.names.lookup y = some .free ∧ (cenv.kindOf y = some .cell ∨ cenv.kindOf y = some .free) := fun k hk hk' => by
        have hk0 := hk
        rw [hsc] at hk
        obtain ⟨k', e, r⟩ := lookup_relS hk
        have no : ¬ (k' = .local ∨ k' = .cell) := fun hh => by
          rcases ok.own _ (PySem.mem_of_lookup e) hh with e' | e'
          · obtain ⟨p, hp, hpy⟩ := List.mem_map.mp e'
            have e3 := ok.ix p hp
            have : p.1 = y := hpy
            rw [this] at e3
            exact hne (List.mem_map.mpr ⟨p, hp, nodup_ix hN e3 e1⟩)
          · exact e' (List.mem_of_getElem? e1)
        rcases r with rfl | ⟨rfl, rfl⟩
        · rcases hk' with rfl | rfl | rfl
          · exact absurd (.inl rfl) no
          · exact absurd (.inr rfl) no
          · exact ⟨e, .inr hk0⟩
        · exact ⟨e, .inl hk0⟩
      have e3 : Vis cenv.scope y := e3
      rcases e3 with e3 | e3 | e3
      · exact key _ e3 (.inl rfl)
      · exact key _ e3 (.inr (.inl rfl))
      · exact key _ e3 (.inr (.inr rfl))
    obtain ⟨m, hn, hl⟩ := I.loc
    have hvis : Vis X.env.scope y := (ok.free _ (PySem.mem_of_lookup hfr.1) rfl).elim (fun k => .inr (.inl k)) (fun k => .inr (.inr k))
    obtain ⟨w, r, q⟩ := hl i y av e1 e2 hvis
    refine ⟨w, r, .inr ⟨hfr.2, ?_⟩⟩
    obtain ⟨c, h1, h2⟩ := look hfr.1
    rcases q with ⟨k, _⟩ | ⟨_, c', e', z⟩
    · have k : X.env.scope.names.lookup y = some .local := k
      rcases ok.free _ (PySem.mem_of_lookup hfr.1) rfl with k' | k' <;> rw [show X.env.scope.names.lookup y = _ from k'] at k <;> cases k
    · rw [h2] at e'; cases e'
      exact ⟨c, h1, z.keeps kp⟩
  · have e : cenv.cells.lookup y = some c := e
    rcases mem e with ⟨h1, _⟩ | ⟨_, z⟩
    · obtain ⟨w, z⟩ := I.cell y c h1
      exact ⟨w, z.keeps kp⟩
    · exact ⟨_, z⟩
  · show H cenv.locals = none
    rw [hL]; exact I.hok.fresh (Nat.le_refl _)
  · have e : cenv.cells.lookup y = some c := e
    rcases mem e with ⟨h1, _⟩ | ⟨h1, _⟩
    · exact I.freeC y c h1
    · exact I.hok.fresh (Nat.le_of_succ_le h1)
  · exact absurd (show p ∈ ([] : List (Addr × Obj)) ++ [] from hp) (by simp)

/-- an item appended to a tracked list -/
theorem app_ok {E : Value → Shared → Prop} {D : Addr} {xs : List V} {y : V} {v : Value} {Q : Value → Shared → Prop} (I : Inv X pins σ H s) (hD : H D = some (.lst xs)) (hz : xs.length < sizeLine) (r : RelV y v)
    (h : ∀ s', Inv X pins σ (upd H D (.lst (xs ++ [y]))) s' → Q .none s') : wpAny (model X.prog X.w) X.A (call (.builtin "list.append") [.ref D, v]) Q E s := by
  obtain ⟨hz', its, n, ri, e⟩ := I.hok D _ hD
  have hl := ri.length
  refine append_at (hsz := by rw [List.size_toArray]; omega) e fun h' sb ho' => ?_
  refine h { s with heap := h' } (I.write (t' := s.toks) (by rw [hD]; trivial) (.inl rfl) (fun b u hb q => (sb.2 b hb).trans q) ⟨_, ho'⟩ ⟨by rw [List.length_append]; exact hz, its ++ [v], n + 1, ri.append (.cons r .nil), ?_⟩)
  rw [ho']
  simp

/-- a clause's tests -/
def PTs (X : Cx) (ifs : List Expr) (t : TT) : Prop :=
  ∀ (pins : List (Addr × Obj)) (s : Shared) (σ : St) (H : Hp) (Q : Bool → Hp → Prop), Inv X pins σ H s → t σ H Q →
    wpAny (model X.prog X.w) X.A (forIn ifs true fun c r => if r = true then do let ok ← isTrue c X.env (eval c X.env); pure (ForInStep.yield ok) else pure (ForInStep.yield r)) (TP X pins σ Q) X.xe s
def tYes : TT := fun _ H Q => Q true H
theorem pts_nil : PTs X [] tYes := fun _ _ _ H _ I h => wpAny_tests_nil ⟨H, I, h⟩
theorem pts_one {c : Expr} {t : TT} (h : PT X c t) : PTs X [c] t := fun pins s σ H Q I hw => wpAny_tests_one (h pins s σ H Q I hw)
end

theorem thnF {α : Type} {t : Sem α} {Q Q' : α → Shared → Prop} {M : Model} {A : Around} {E : Value → Shared → Prop} {s : Shared} (h : wpAny M A t Q (fun _ _ => False) s) (hQ : ∀ a s, Q a s → Q' a s) : wpAny M A t Q' E s := wpAny_mono h hQ fun _ _ z => False.elim z

/-- the loop of a list comprehension's block, the target of any form (codeAny_compLoop_tests asks a target that no tuple goes to; statement and proof follow it, PyProof/CompMap.lean:41-61, with the step letOwnedTupleGo kept) -/
theorem compLoop_any {prog : Program} {w : World} {A : Around} {R : Result → Shared → Prop} {s : Shared} {elt target iter : Expr} {ifs : List Expr} {scope : Scope} {pos : Pos} {it acc : Value} {env : Env} (I : Nat → Shared → Prop)
    (turn : ∀ n s, I n s → wpAny (model prog w) A (pyNext it) (fun r s₁ => match r with
      | none => R (.ok .next) s₁
      | some v => wpAny (model prog w) A (letOwnedTupleGo target it v) (fun _ s₁' => wpAny (model prog w) A (assign target env v) (fun _ s₂ =>
          wpAny (model prog w) A (forIn ifs true fun c r => if r = true then do let ok ← isTrue c env (eval c env); pure (ForInStep.yield ok) else pure (ForInStep.yield r)) (fun ok s₃ =>
            if ok = true then wpAny (model prog w) A (eval elt env) (fun x s₄ =>
              wpAny (model prog w) A (call (.builtin "list.append") [acc, x]) (fun _ s₅ => ∃ m, m < n ∧ I m s₅) (notedBy (model prog w) A env fun e s' => R (.error e) s') s₄) (notedBy (model prog w) A env fun e s' => R (.error e) s') s₃
            else ∃ m, m < n ∧ I m s₃) (notedBy (model prog w) A env fun e s' => R (.error e) s') s₂) (notedBy (model prog w) A env fun e s' => R (.error e) s') s₁') (notedBy (model prog w) A env fun e s' => R (.error e) s') s₁) (notedBy (model prog w) A env fun e s' => R (.error e) s') s)
    (n : Nat) (h : I n s) :
    codeAny (model prog w) A (.compLoop (.ListComp elt [⟨target, iter, ifs, 0⟩] scope pos) 0 it acc env) R s := by
  refine codeAny_loop rfl I (fun n s hI => ?_) n h
  show wpAny _ A ((compTurn (.ListComp elt [⟨target, iter, ifs, 0⟩] scope pos) 0 it acc env).onRaise (fun x => do noteFrame x env; theTreesLotGoes x)) _ _ s
  refine wpAny_noted ?_
  rw [compTurn_list]
  refine wpAny_bind (wpAny_standAt (wpAny_bind (wpAny_mono (turn n s hI) (fun r s₁ h₁ => ?_) fun _ _ h' => h')))
  cases r with
  | none => exact wpAny_pure h₁
  | some v =>
    refine wpAny_bind (wpAny_mono h₁ (fun _ s₁' h₁' => ?_) fun _ _ h' => h')
    refine wpAny_bind (wpAny_mono h₁' (fun _ s₂ h₂ => wpAny_bind (wpAny_mono h₂ (fun ok s₃ h₃ => ?_) fun _ _ h' => h')) fun _ _ h' => h')
    cases ok with
    | false => exact wpAny_pure ⟨rfl, h₃⟩
    | true =>
      exact wpAny_bind (wpAny_bind (wpAny_mono h₃ (fun x s₄ h₄ => wpAny_bind (wpAny_mono h₄ (fun _ s₅ h₅ => wpAny_pure (wpAny_pure ⟨rfl, h₅⟩)) fun _ _ h' => h')) fun _ _ h' => h'))

section
variable {X : Cx}
/-- [elt for target in iter if ..]: D the new list; W by the turn and a measure, Nx what a turn is to reach -/
def tLc (wi : TI) (g : TG) (tt : TT) (te : TE) (vs : List Nat) : TE := fun σ H Q => wi σ H fun J H1 => ∀ D, H1 D = none → ∃ W : Nat → Nat → Hp → Prop, (∃ m, W 0 m (upd H1 D (.lst []))) ∧ ∀ i m H, W i m H →
  (J.stop i H ∧ Q (.ref D) H) ∨ (J.go i H ∧ ∃ Nx : Hp → Prop, (∀ H', Nx H' → ∃ m', m' < m ∧ W (i + 1) m' H') ∧ ∀ x H', J.yld i H x H' → g x (wipe σ vs) H' fun σ2 H2 => wipe σ2 vs = wipe σ vs ∧ tt σ2 H2 fun b H3 =>
    if b = true then te σ2 H3 fun y H4 => ∃ acc, H4 D = some (.lst acc) ∧ acc.length < sizeLine ∧ Nx (upd H4 D (.lst (acc ++ [y]))) else Nx H3)
theorem lc_core {pins : List (Addr × Obj)} {s : Shared} {σ : St} {H : Hp} {Q : VK} {elt tg iter : Expr} {ifs : List Expr} {scope : Scope} {own : List (Str × Nat)} {pos pos' : Pos} {wi : TI} {g : TG} {tt : TT} {te : TE} {use : Option (Value → Sem Unit)} {Qf : Value → Shared → Prop}
    (hc : X.calm = true) (hN : X.N.Nodup) (I : Inv X pins σ H s) (hi : PI X tg iter wi) (ok : BlkOk X.N X.env.scope scope own)
    (hg : ∀ (s : Shared) (H : Hp) (C : Addr) (cl : List (Str × Addr)) (fp : List Addr), PG (X.blk s H scope (compEnvC scope cl C X.env) fp) tg g) (ht : ∀ (s : Shared) (H : Hp) (C : Addr) (cl : List (Str × Addr)) (fp : List Addr), PTs (X.blk s H scope (compEnvC scope cl C X.env) fp) ifs tt)
    (he : ∀ (s : Shared) (H : Hp) (C : Addr) (cl : List (Str × Addr)) (fp : List Addr), PE (X.blk s H scope (compEnvC scope cl C X.env) fp) elt te) (hs : ∀ x, foldedSetIterable iter X.env x = pure x)
    (h : tLc wi g tt te (own.map (·.2)) σ H Q)
    (hRR : ∀ D C s' m H', Inv X pins σ H' s' → Q (.ref D) H' → s'.heap.Ns C m → FpOk X pins H' C → compPost (model X.prog X.w) X.A X.xe use Qf (.ref D) C (.ok .next) s') :
    wpAny (model X.prog X.w) X.A (comprehension (.ListComp elt [⟨tg, iter, ifs, 0⟩] scope pos) scope X.env pos' (newList []) false (eval iter X.env) use) Qf X.xe s := by
  have hfree : ∀ y ∈ scope.names, y.2 = .free → ∃ c, X.env.cells.lookup y.1 = some c := fun y hy e => by
    rcases ok.free y hy e with k | k
    · exact I.ok.has _ (.inl k)
    · exact I.ok.has _ (.inr k)
  refine wpAny_comprehension_free (use := use) rfl hs (closure_ok hfree) ok.kind (fun y hy e => by rw [ok.uniq y hy, e])
    (thn (hi pins s σ H _ I h) fun xv s1 hx => thn hx fun itv s2 h2 => ?_)
  obtain ⟨it, fp, tn, J, H2, e, I2, T, st2, f2, q⟩ := h2
  subst e
  refine wpAny_newObj_type (newEnv_comp ?_) (by show 0 ≤ sizeLine; decide)
  generalize hD : s2.heap.objs.size = D
  have hDn : H2 D = none := I2.hok.fresh (Nat.le_of_eq hD)
  obtain ⟨W, ⟨m0, w0⟩, turn⟩ := q D hDn
  -- the new list
  generalize hs3 : ({ s2 with heap := s2.heap.push { cls := .type "list", data := .seq ([] : List Value).toArray } } : Shared) = s3
  have I3 : Inv X pins σ (upd H2 D (.lst [])) s3 := by
    rw [← hs3]
    refine I2.laid (t' := s2.toks) (fun b o e => Heap.get?_push_of_some _ e) (Nat.le_of_eq hD) ⟨Nat.zero_le _, [], 0, .nil, ?_⟩
    rw [← hD]
    exact Heap.get?_push_size _ rfl
  have h3 : s3.heap = s2.heap.push { cls := .type "list", data := .seq ([] : List Value).toArray } := by rw [← hs3]
  have sz : ∀ b ∈ fp, b < s2.heap.objs.size := fun b hb => by
    obtain ⟨o, e, _⟩ := T.obj _ _ st2 b hb
    exact Heap.lt_size e
  have f3 : ∀ b ∈ fp, FpOk X pins (upd H2 D (.lst [])) b ∧ b < s3.heap.objs.size := fun b hb => by
    have hlt := sz b hb
    refine ⟨⟨?_, (f2 b hb).2⟩, by rw [h3, Heap.size_push]; exact Nat.lt_succ_of_lt hlt⟩
    rw [upd_ne (by rw [← hD]; exact Nat.ne_of_lt hlt)]
    exact (f2 b hb).1
  have st3 : tn 0 s3.heap := T.keep _ _ _ st2 fun b _ o e => by rw [h3]; exact Heap.get?_push_of_some _ e
  have I4 := block_start I3 ok hN f3
  have pg := hg s3 (upd H2 D (.lst [])) s3.heap.objs.size (cellsFrom (s3.heap.objs.size + 1) scope.names (cloFrom X.env.cells scope.names [])) fp
  have pt := ht s3 (upd H2 D (.lst [])) s3.heap.objs.size (cellsFrom (s3.heap.objs.size + 1) scope.names (cloFrom X.env.cells scope.names [])) fp
  have pe := he s3 (upd H2 D (.lst [])) s3.heap.objs.size (cellsFrom (s3.heap.objs.size + 1) scope.names (cloFrom X.env.cells scope.names [])) fp
  show codeAny _ _ (.compStart (.ListComp elt [⟨tg, iter, ifs, 0⟩] scope pos) 0 (.ref it) (.ref D) (compEnvC scope (cellsFrom (s3.heap.objs.size + 1) scope.names (cloFrom X.env.cells scope.names [])) s3.heap.objs.size X.env)) (compPost (model X.prog X.w) X.A X.xe use Qf (.ref D) s3.heap.objs.size) { s3 with heap := pushCells (s3.heap.push { cls := .type "dict", data := .dict #[] }) scope.names }
  have nfp : ∀ b ∈ fp, (upd H2 D (.lst [])) b = none := fun b hb => (f3 b hb).1.1
  generalize hce : compEnvC scope (cellsFrom (s3.heap.objs.size + 1) scope.names (cloFrom X.env.cells scope.names [])) s3.heap.objs.size X.env = ce at I4 pg pt pe ⊢
  have cL : ce.locals = s3.heap.objs.size := by subst hce; rfl
  generalize hH3 : upd H2 D (.lst []) = H3 at I3 I4 pg pt pe w0 nfp f3
  generalize hs4 : ({ s3 with heap := pushCells (s3.heap.push { cls := .type "dict", data := .dict #[] }) scope.names } : Shared) = s4 at I4 ⊢
  have st4 : tn 0 s4.heap := T.keep _ _ _ st3 fun b _ o e => by rw [← hs4]; exact pushCells_keeps _ _ _ _ (Heap.get?_push_of_some _ e)
  have stat : ∀ {σ' : St} {H' : Hp} {s' : Shared}, Inv (X.blk s3 H3 scope ce fp) [] σ' H' s' → (∀ b ∈ fp, H' b = none) → ∀ b ∈ fp, FpOk (X.blk s3 H3 scope ce fp) [] H' b := fun {σ' H' s'} I' hn b hb =>
    ⟨hn b hb, (I'.ok.exf b hb).1, I'.ok.exfs b hb, .inl hb, fun x c e => (I'.ok.exf b hb).2 x c e, fun p hp => absurd (show p ∈ ([] : List (Addr × Obj)) ++ [] from hp) (by simp)⟩
  have loop : codeAny (model X.prog X.w) X.A (.compLoop (.ListComp elt [⟨tg, iter, ifs, 0⟩] scope pos) 0 (.ref it) (.ref D) ce) (compPost (model X.prog X.w) X.A X.xe use Qf (.ref D) s3.heap.objs.size) s4 := by
    refine compLoop_any (fun n s' => ∃ i H', Inv (X.blk s3 H3 scope ce fp) [] (wipe σ (own.map (·.2))) H' s' ∧ tn i s'.heap ∧ (∀ b ∈ fp, H' b = none) ∧ W i n H') ?_ m0 ⟨0, H3, I4, st4, nfp, w0⟩
    rintro n s5 ⟨i, H5, I5, st5, n5, w5⟩
    rcases turn i n H5 w5 with ⟨stop, qq⟩ | ⟨go, Nx, hNx, step⟩
    · have td := T.done (X.blk s3 H3 scope ce fp) rfl rfl rfl hc i [] s5 _ H5 (fun _ _ => False) I5 (stat I5 n5) st5 stop
      refine thnF td fun r s6 ⟨hr, I6⟩ => ?_
      subst hr
      -- back in the def's context
      have I7 : Inv X pins σ H5 s6 := I3.call' (ch := fp) I6.os I6.base I6.hok I6.bare fun b hb => ⟨(f3 b hb).1.2.2.2.1, (f3 b hb).1.2.1, (f3 b hb).1.2.2.2.2.1, (f3 b hb).1.2.2.2.2.2⟩
      have nC : H5 s3.heap.objs.size = none := by
        have z : H5 ce.locals = none := I6.free
        rw [cL] at z
        exact z
      obtain ⟨m, hn, _⟩ := I6.loc
      have hn : s6.heap.Ns ce.locals m := hn
      rw [cL] at hn
      exact hRR D s3.heap.objs.size s6 m H5 I7 qq hn (I3.fpOk (Nat.le_refl _) nC)
    · have ti := T.item (X.blk s3 H3 scope ce fp) rfl rfl rfl hc i [] s5 _ H5 (fun _ _ => False) I5 (stat I5 n5) st5 go
      refine thnF ti fun r s6 ⟨u, hr, h6⟩ => ?_
      subst hr
      refine thnF h6 fun _ s7 ⟨x, H7, I7, r7, y7, st7, n7⟩ => ?_
      have I7' := I7.pinned (stat I7 n7) (T.obj _ _ st7)
      refine thnF (pg _ s7 _ H7 x u _ I7' r7 (step x H7 y7)) fun _ s8 ⟨σ8, H8, I8, hw8, q8⟩ => ?_
      refine thnF (pt _ s8 σ8 H8 _ I8 q8) fun b s9 ⟨H9, I9, q9⟩ => ?_
      -- the turn's end
      have fin : ∀ {s' : Shared} {H' : Hp}, Inv (X.blk s3 H3 scope ce fp) ([] ++ pinsAt fp s7.heap) σ8 H' s' → Nx H' → ∃ m, m < n ∧ ∃ i H', Inv (X.blk s3 H3 scope ce fp) [] (wipe σ (own.map (·.2))) H' s' ∧ tn i s'.heap ∧ (∀ b ∈ fp, H' b = none) ∧ W i m H' := fun {s' H'} I' nx => by
        obtain ⟨m', hm, w'⟩ := hNx H' nx
        have pin' : ∀ b ∈ fp, ∀ o, s7.heap.get? b = some o → s'.heap.get? b = some o ∧ H' b = none := fun b hb o e =>
          let z := I'.pin (b, o) (List.mem_append_right _ (List.mem_append_right _ (mem_pinsAt hb e)))
          ⟨z.1, z.2.1⟩
        have hl : (wipe σ (own.map (·.2))).length = σ8.length := by rw [← hw8, wipe_length]
        refine ⟨m', hm, i + 1, H', (I'.unpinned (pins := [])).weak hl (fun j v e => ?_), T.keep _ _ _ st7 fun b hb o e => (pin' b hb o e).1, fun b hb => ?_, w'⟩
        · rw [← hw8] at e
          exact (wipe_some e).1
        · obtain ⟨o, e, _⟩ := T.obj _ _ st7 b hb
          exact (pin' b hb o e).2
      cases b with
      | false =>
        simp only [Bool.false_eq_true, if_false] at q9 ⊢
        exact fin I9 q9
      | true =>
        simp only [if_true] at q9 ⊢
        refine thnF (pe _ s9 σ8 H9 _ I9 q9) fun z s10 ⟨yv, H10, I10, r10, acc, hD10, hz10, nx⟩ => ?_
        exact app_ok (X := X.blk s3 H3 scope ce fp) I10 hD10 hz10 r10 fun s11 I11 => fin I11 nx
  exact codeAny_compStart_list loop (T.self X.A 0 _ _ _ st4 loop)
/-- as a value -/
theorem pe_lc {elt tg iter : Expr} {ifs : List Expr} {scope : Scope} {own : List (Str × Nat)} {pos : Pos} {wi : TI} {g : TG} {tt : TT} {te : TE} (hc : X.calm = true) (hN : X.N.Nodup) (hi : PI X tg iter wi) (ok : BlkOk X.N X.env.scope scope own)
    (hg : ∀ (s : Shared) (H : Hp) (C : Addr) (cl : List (Str × Addr)) (fp : List Addr), PG (X.blk s H scope (compEnvC scope cl C X.env) fp) tg g) (ht : ∀ (s : Shared) (H : Hp) (C : Addr) (cl : List (Str × Addr)) (fp : List Addr), PTs (X.blk s H scope (compEnvC scope cl C X.env) fp) ifs tt)
    (he : ∀ (s : Shared) (H : Hp) (C : Addr) (cl : List (Str × Addr)) (fp : List Addr), PE (X.blk s H scope (compEnvC scope cl C X.env) fp) elt te) (hs : ∀ x, foldedSetIterable iter X.env x = pure x := by intro _; rfl) :
    PE X (.ListComp elt [⟨tg, iter, ifs, 0⟩] scope pos) (tLc wi g tt te (own.map (·.2))) := by
  intro pins s σ H Q I h
  rw [eval_ListComp]
  refine lc_core hc hN I hi ok hg ht he hs h fun D C s' m H' I' q hn f => ⟨m, hn, fun h'' sb => ?_⟩
  obtain ⟨f0, f1, f2, f3, f4, f5⟩ := f
  exact ⟨.ref D, H', I'.turned (t' := s'.toks) (fun b o hb e => (sb.2 b hb).trans e) f0 f1 f3 f4 f5, rfl, q⟩
/-- name = [..] on one line, the name a local -/
theorem ps_setLc {i : Nat} {y : Str} {py : Pos} {elt tg iter : Expr} {ifs : List Expr} {scope : Scope} {own : List (Str × Nat)} {pos spos : Pos} {wi : TI} {g : TG} {tt : TT} {te : TE} (hc : X.calm = true) (hN : X.N.Nodup) (hy : X.N[i]? = some y) (hyl : X.env.scope.names.lookup y = some .local)
    (hsw : swapsWith (.ListComp elt [⟨tg, iter, ifs, 0⟩] scope pos) (some (.Name y py)) spos.line X.env = pure true) (hi : PI X tg iter wi) (ok : BlkOk X.N X.env.scope scope own)
    (hg : ∀ (s : Shared) (H : Hp) (C : Addr) (cl : List (Str × Addr)) (fp : List Addr), PG (X.blk s H scope (compEnvC scope cl C X.env) fp) tg g) (ht : ∀ (s : Shared) (H : Hp) (C : Addr) (cl : List (Str × Addr)) (fp : List Addr), PTs (X.blk s H scope (compEnvC scope cl C X.env) fp) ifs tt)
    (he : ∀ (s : Shared) (H : Hp) (C : Addr) (cl : List (Str × Addr)) (fp : List Addr), PE (X.blk s H scope (compEnvC scope cl C X.env) fp) elt te) (hs : ∀ x, foldedSetIterable iter X.env x = pure x := by intro _; rfl) :
    PS X (.Assign [.Name y py] (.ListComp elt [⟨tg, iter, ifs, 0⟩] scope pos) spos) (tAsg (tLc wi g tt te (own.map (·.2))) (gName i)) := by
  intro pins s σ H D I h
  rw [exec_Assign_Name_used _ _ _ _ hsw]
  refine wpAny_bind (wpAny_standAt (wpAny_bind ?_))
  show wpAny _ X.A (do let _ ← comprehension (.ListComp elt [⟨tg, iter, ifs, 0⟩] scope pos) scope X.env (firstIterPos [⟨tg, iter, ifs, 0⟩] pos) (newList []) false (eval iter X.env) (some (assign (.Name y py) X.env))) _ _ s
  have h : tLc wi g tt te (own.map (·.2)) σ H (fun x H1 => gName i x σ H1 D.nx) := h
  refine wpAny_bind (thn (lc_core (Qf := fun _ s' => SP X pins D .next s') hc hN I hi ok hg ht he hs h fun L C s' m H' I' q hn f => ?_) fun _ s' hq => wpAny_pure (wpAny_pure hq))
  show wpAny _ _ (assign (.Name y py) X.env (.ref L)) _ _ _
  refine wpAny_assign_Name (store_ok2 (v := V.ref L) I' hN hy (.inl hyl) rfl (fun s2 I2 ⟨a, sb, ha⟩ => ?_) (.inr hyl))
  obtain ⟨f0, f1, f2, f3, f4, f5⟩ := f
  have haC : C ≠ a := by
    rcases ha with z | z
    · rw [z]; exact f1
    · exact fun e => f4 y a z e.symm
  refine ⟨m, hn.sameBut sb haC, fun h3 sb3 => ?_⟩
  exact ⟨_, H', I2.turned (t' := s2.toks) (fun b o hb e => (sb3.2 b hb).trans e) f0 f1 f3 f4 f5, q⟩
theorem sw_true {elt : Expr} {gs : List Comprehension} {scope : Scope} {pos py : Pos} {y : Str} {l : Nat} {env : Env} (hk : env.scope.kind = .function) (hy : env.scope.names.lookup y = some .local) (hl : (py.line == pos.line) = true)
    (ha : (scope.names.any fun (n, k) => n == y && (k == .local || k == .cell)) = false) : swapsWith (.ListComp elt gs scope pos) (some (.Name y py)) l env = pure true := by
  have ky : env.kindOf y = some .local := hy
  have hb : env.blockKind = .function := by unfold Env.blockKind; rw [hk]; rfl
  unfold swapsWith
  simp only [hb, ky, ha, Expr.pos, hl]
  rfl
end

/-! ### the forms one uses -/
def blkC (N : List Str) (sc scope : Scope) (own : List (Str × Nat)) : Bool :=
  (match scope.kind with | .function => true | _ => false) && (scope.names.all fun y => decide (scope.names.lookup y.1 = some y.2)) && (own.all fun p => decide (N[p.2]? = some p.1)) &&
    (scope.names.all fun y => match y.2 with
      | .free => (match sc.names.lookup y.1 with | some .cell => true | some .free => true | _ => false)
      | .local => decide (y.1 ∈ own.map (·.1)) || decide (y.1 ∉ N)
      | .cell => decide (y.1 ∈ own.map (·.1)) || decide (y.1 ∉ N)
      | _ => true)
theorem blkOk_by {N : List Str} {sc scope : Scope} {own : List (Str × Nat)} (h : blkC N sc scope own = true) : BlkOk N sc scope own := by
  unfold blkC at h
  simp only [Bool.and_eq_true, List.all_eq_true, decide_eq_true_eq] at h
  obtain ⟨⟨⟨h1, h2⟩, h3⟩, h4⟩ := h
  refine ⟨?_, h2, h3, fun y hy e => ?_, fun y hy e => ?_⟩
  · split at h1
    · assumption
    · cases h1
  · have q := h4 y hy
    simp only [e] at q
    split at q <;> first | exact .inl (by assumption) | exact .inr (by assumption) | cases q
  · have q := h4 y hy
    rcases e with e | e <;> (simp only [e, Bool.or_eq_true, decide_eq_true_eq] at q; exact q)
end L2

namespace L2
open PySem PySem.Spec PyProof.Rows

section
variable {prog : Program} {w : World} {A : Around} {R : Result → Shared → Prop} {s : Shared} {elt t0 i0 t1 i1 : Expr} {ifs0 ifs1 : List Expr} {scope : Scope} {pos : Pos} {it acc : Value} {env : Env}
end

section
variable {X : Cx}
end
end L2

namespace L2
open PySem PySem.Spec PyProof.Rows

/-! ### lists of pairs as tables -/
section
variable {κ : Type} [DecidableEq κ]
def valV (kvs : List (κ × V)) (k : κ) : Option V := (kvs.find? fun kv => decide (kv.1 = k)).map (·.2)
/-- in its place, or at the end -/
def putK (kvs : List (κ × V)) (k : κ) (v : V) : List (κ × V) :=
  if (kvs.any fun kv => decide (kv.1 = k)) = true then kvs.map (fun kv => if kv.1 = k then (kv.1, v) else kv) else kvs ++ [(k, v)]
def dropK (kvs : List (κ × V)) (k : κ) : List (κ × V) := kvs.filter fun kv => decide (kv.1 ≠ k)

theorem valV_pos {p : κ × V} {r : List (κ × V)} {k : κ} (e : p.1 = k) : valV (p :: r) k = some p.2 := by simp [valV, List.find?_cons, e]
theorem valV_neg {p : κ × V} {r : List (κ × V)} {k : κ} (e : ¬ p.1 = k) : valV (p :: r) k = valV r k := by simp [valV, List.find?_cons, e]
theorem valV_any (k : κ) : ∀ kvs : List (κ × V), (kvs.any fun kv => decide (kv.1 = k)) = (valV kvs k).isSome
  | [] => rfl
  | p :: r => by
    rw [List.any_cons]
    by_cases e : p.1 = k
    · simp only [valV_pos e, decide_eq_true e, Bool.true_or, Option.isSome_some]
    · rw [valV_neg e, decide_eq_false e, Bool.false_or]; exact valV_any k r
theorem length_putK (kvs : List (κ × V)) (k : κ) (v : V) : (putK kvs k v).length ≤ kvs.length + 1 := by
  unfold putK
  split
  · rw [List.length_map]; omega
  · rw [List.length_append, List.length_cons, List.length_nil]; omega
theorem RelO.isSome_eq {o : Option V} {u : Option Value} (r : RelO o u) : o.isSome = u.isSome := by
  cases o with
  | none => cases u with
    | none => rfl
    | some _ => exact (show False from r).elim
  | some _ => cases u with
    | none => exact (show False from r).elim
    | some _ => rfl
theorem RelO.getD {o : Option V} {u : Option Value} {d : V} {d' : Value} (r : RelO o u) (rd : RelV d d') : RelV (o.getD d) (u.getD d') := by
  cases o with
  | none => cases u with
    | none => exact rd
    | some _ => exact (show False from r).elim
  | some _ => cases u with
    | none => exact (show False from r).elim
    | some _ => exact r

/-- raw tables of the same keys -/
theorem KV.val {kvs : List (κ × V)} {vs : List (κ × Value)} (r : KV kvs vs) (k : κ) : RelO (valV kvs k) (valueAt vs k) := by
  unfold KV at r
  induction r with
  | nil => exact True.intro
  | @cons p q ps qs h t ih =>
    obtain ⟨h1, h2⟩ := h
    by_cases e : p.1 = k
    · have e' : q.1 = k := h1.symm.trans e
      have b : valueAt (q :: qs) k = some q.2 := by simp [valueAt, List.find?_cons, e']
      rw [valV_pos e, b]; exact h2
    · have e' : ¬ q.1 = k := fun z => e (h1.trans z)
      have b : valueAt (q :: qs) k = valueAt qs k := by simp [valueAt, List.find?_cons, e']
      rw [valV_neg e, b]; exact ih
theorem KV.any {kvs : List (κ × V)} {vs : List (κ × Value)} (r : KV kvs vs) (k : κ) : (kvs.any fun kv => decide (kv.1 = k)) = vs.any fun kv => decide (kv.1 = k) := by
  unfold KV at r
  induction r with
  | nil => rfl
  | cons h t ih => rw [List.any_cons, List.any_cons, ih, h.1]
theorem KV.repl {kvs : List (κ × V)} {vs : List (κ × Value)} (r : KV kvs vs) (k : κ) {y : V} {u : Value} (ry : RelV y u) :
    KV (kvs.map fun kv => if kv.1 = k then (kv.1, y) else kv) (vs.map fun kv => if kv.1 = k then (kv.1, u) else kv) := by
  unfold KV at r ⊢
  induction r with
  | nil => exact .nil
  | @cons p q ps qs h t ih =>
    rw [List.map_cons, List.map_cons]
    refine .cons ?_ ih
    obtain ⟨h1, h2⟩ := h
    by_cases e : p.1 = k
    · rw [if_pos e, if_pos (h1.symm.trans e)]; exact ⟨h1, ry⟩
    · rw [if_neg e, if_neg (fun z => e (h1.trans z))]; exact ⟨h1, h2⟩
theorem KV.put {kvs : List (κ × V)} {vs : List (κ × Value)} (r : KV kvs vs) (k : κ) {y : V} {u : Value} (ry : RelV y u) : KV (putK kvs k y) (stored vs k u) := by
  unfold putK stored
  rw [r.any k]
  by_cases e : (vs.any fun kv => decide (kv.1 = k)) = true
  · rw [if_pos e, if_pos e]; exact r.repl k ry
  · rw [if_neg e, if_neg e]; exact Paired.snoc r ⟨rfl, ry⟩
theorem KV.drop {kvs : List (κ × V)} {vs : List (κ × Value)} (r : KV kvs vs) (k : κ) : KV (dropK kvs k) (without vs k) := by
  unfold KV at r ⊢
  unfold dropK without
  induction r with
  | nil => exact .nil
  | @cons p q ps qs h t ih =>
    obtain ⟨h1, h2⟩ := h
    rw [List.filter_cons, List.filter_cons]
    by_cases e : p.1 = k
    · have a : ¬ decide (p.1 ≠ k) = true := by simp [e]
      have b : ¬ decide (q.1 ≠ k) = true := by simp [h1.symm.trans e]
      rw [if_neg a, if_neg b]; exact ih
    · have e' : ¬ q.1 = k := fun z => e (h1.trans z)
      have a : decide (p.1 ≠ k) = true := by simp [e]
      have b : decide (q.1 ≠ k) = true := by simp [e']
      rw [if_pos a, if_pos b]; exact .cons ⟨h1, h2⟩ ih
theorem KV.keys {kvs : List (κ × V)} {vs : List (κ × Value)} (r : KV kvs vs) : kvs.map (·.1) = vs.map (·.1) := by
  unfold KV at r
  induction r with
  | nil => rfl
  | cons h t ih => rw [List.map_cons, List.map_cons, ih, h.1]
theorem KV.length {kvs : List (κ × V)} {vs : List (κ × Value)} (r : KV kvs vs) : kvs.length = vs.length := Paired.length r
end


/-! ### a tracked dict, its keys ints and texts or tuples of these -/
theorem kV_is {P : Program} {w : World} {k : Key} {u : Value} (r : RelV (kV k) u) : (mixKind P w).is k u = true := by
  cases k with
  | inl i => obtain ⟨t, e⟩ := (show ∃ t, u = Value.int i t from r); subst e; exact mixKind_int P w i t
  | inr x => obtain ⟨t, e⟩ := (show ∃ t, u = Value.str x t from r); subst e; exact mixKind_str P w x t
theorem items_are {P : Program} {w : World} : ∀ {ks : List Key} {us : List Value}, Vals (ks.map kV) us → ItemsAre (mixKind P w) ks us
  | [], _, r => by rw [List.map_nil] at r; cases r; exact .nil
  | k :: ks, _, r => by
    rw [List.map_cons] at r
    cases r with
    | cons h t => exact .cons (kV_is h) (items_are t)

/-- raw entries of a dict with tuple keys -/
abbrev KT (H : Hp) : List (List Key × V) → List (List Key × Addr × Value) → Prop := Paired fun p q => p.1 = q.1 ∧ H q.2.1 = some (.tup (p.1.map kV)) ∧ RelV p.2 q.2.2
theorem KT.val {H : Hp} {kvs : List (List Key × V)} {xs : List (List Key × Addr × Value)} (r : KT H kvs xs) (k : List Key) : RelO (valV kvs k) ((atKey xs k).map (·.2)) := by
  induction r with
  | nil => exact True.intro
  | @cons p q ps qs h t ih =>
    obtain ⟨h1, _, h2⟩ := h
    by_cases e : p.1 = k
    · have e' : q.1 = k := h1.symm.trans e
      have b : atKey (q :: qs) k = some q.2 := by simp [atKey, List.find?_cons, e']
      rw [valV_pos e, b]; exact h2
    · have e' : ¬ q.1 = k := fun z => e (h1.trans z)
      have b : atKey (q :: qs) k = atKey qs k := by simp [atKey, List.find?_cons, e']
      rw [valV_neg e, b]; exact ih
theorem KT.repl {H : Hp} {kvs : List (List Key × V)} {xs : List (List Key × Addr × Value)} (r : KT H kvs xs) (k : List Key) {y : V} {u : Value} (ry : RelV y u) :
    KT H (kvs.map fun kv => if kv.1 = k then (kv.1, y) else kv) (xs.map (putAt k u)) := by
  induction r with
  | nil => exact .nil
  | @cons p q ps qs h t ih =>
    rw [List.map_cons, List.map_cons]
    refine .cons ?_ ih
    obtain ⟨h1, h2, h3⟩ := h
    unfold putAt
    by_cases e : p.1 = k
    · rw [if_pos e, if_pos (h1.symm.trans e)]; exact ⟨h1, h2, ry⟩
    · rw [if_neg e, if_neg (fun z => e (h1.trans z))]; exact ⟨h1, h2, h3⟩
theorem KT.put {H : Hp} {kvs : List (List Key × V)} {xs : List (List Key × Addr × Value)} (r : KT H kvs xs) (k : List Key) {b : Addr} {y : V} {u : Value} (hb : H b = some (.tup (k.map kV))) (ry : RelV y u) :
    KT H (putK kvs k y) (storedH xs k b u) := by
  have e : (kvs.any fun kv => decide (kv.1 = k)) = (atKey xs k).isSome := by
    rw [valV_any, (r.val k).isSome_eq, Option.isSome_map]
  unfold putK storedH
  rw [e]
  by_cases q : (atKey xs k).isSome = true
  · rw [if_pos q, if_pos q]; exact r.repl k ry
  · rw [if_neg q, if_neg q]; exact Paired.snoc r ⟨rfl, hb, ry⟩
theorem KT.keeps {H H' : Hp} {kvs : List (List Key × V)} {xs : List (List Key × Addr × Value)} (r : KT H kvs xs) (ht : ∀ b ys, H b = some (.tup ys) → H' b = some (.tup ys)) : KT H' kvs xs :=
  Paired.mapP r fun _ _ z => ⟨z.1, ht _ _ z.2.1, z.2.2⟩

section
variable {P : Program} {w : World} {H : Hp} {h : Heap} {a : Addr}
theorem rd_of {u : HO} (ok : HOk P w H h) (e : Rd H a u) : ObjOk P w H h a u := e.ok ok
theorem dk_rd {kvs : List (Key × V)} (ok : HOk P w H h) (e : Rd H a (.dK kvs)) : kvs.length ≤ sizeLine ∧ (a == sysModules) = false ∧ ∃ vs, KV kvs vs ∧ h.DictOf (mixKind P w) a vs :=
  show ObjOk P w H h a (.dK kvs) from rd_of ok e
theorem dk_of {kvs : List (Key × V)} (ok : HOk P w H h) (e : H a = some (.dK kvs)) : kvs.length ≤ sizeLine ∧ (a == sysModules) = false ∧ ∃ vs, KV kvs vs ∧ h.DictOf (mixKind P w) a vs := dk_rd ok (.inl e)
/-- a tracked tuple of ints and texts is a key -/
theorem key_of {ks : List Key} (ok : HOk P w H h) (e : H a = some (.tup (ks.map kV))) : (tupleKind (mixKind P w)).is h ks a := by
  obtain ⟨_, its, r, ⟨o, h1, h2, n, h3⟩, _⟩ := (show ObjOk P w H h a (.tup (ks.map kV)) from ok a _ e)
  exact ⟨o, its.toArray, n, h1, h2, h3, by simpa using items_are r⟩
theorem dt_rd {kvs : List (List Key × V)} (ok : HOk P w H h) (e : Rd H a (.dT kvs)) : kvs.length ≤ sizeLine ∧ (a == sysModules) = false ∧
    ∃ xs, KT H kvs xs ∧ h.DictOfH (tupleKind (mixKind P w)) a xs := by
  obtain ⟨z, y, xs, r, o, es, ep, h1, h2, h3, h4, h5⟩ := (show ObjOk P w H h a (.dT kvs) from rd_of ok e)
  refine ⟨z, y, xs, r, o, es, ep, h1, h2, h3, h4, fun x hx => ?_, h5⟩
  have all : ∀ {l : List (List Key × V)} {m : List (List Key × Addr × Value)}, KT H l m → ∀ x ∈ m, (tupleKind (mixKind P w)).is h x.1 x.2.1 := by
    intro l m q
    induction q with
    | nil => intro x hx; exact nomatch hx
    | @cons p q ps qs hq t ih =>
      intro x hx
      rcases List.mem_cons.mp hx with e | hx
      · subst e
        exact key_of ok (by rw [← hq.1]; exact hq.2.1)
      · exact ih x hx
  exact all r x hx
theorem dt_of {kvs : List (List Key × V)} (ok : HOk P w H h) (e : H a = some (.dT kvs)) : kvs.length ≤ sizeLine ∧ (a == sysModules) = false ∧
    ∃ xs, KT H kvs xs ∧ h.DictOfH (tupleKind (mixKind P w)) a xs := dt_rd ok (.inl e)
end

/-- what the dict at a holds at the key y -/
def DGet (H : Hp) (a : Addr) (y : V) (r : Option V) : Prop :=
  (∃ kvs k, Rd H a (.dK kvs) ∧ y = kV k ∧ r = valV kvs k) ∨ ∃ kvs k b, Rd H a (.dT kvs) ∧ y = .ref b ∧ H b = some (.tup (k.map kV)) ∧ r = valV kvs k
/-- the heap behind a[y] = v -/
def DPut (H : Hp) (a : Addr) (y v : V) (H' : Hp) : Prop :=
  (∃ kvs k, H a = some (.dK kvs) ∧ y = kV k ∧ kvs.length < sizeLine ∧ H' = upd H a (.dK (putK kvs k v))) ∨
  ∃ kvs k b, H a = some (.dT kvs) ∧ y = .ref b ∧ H b = some (.tup (k.map kV)) ∧ kvs.length < sizeLine ∧ H' = upd H a (.dT (putK kvs k v))
theorem DGet.k {H : Hp} {a : Addr} {kvs : List (Key × V)} {k : Key} (e : H a = some (.dK kvs)) : DGet H a (kV k) (valV kvs k) := .inl ⟨kvs, k, .inl e, rfl, rfl⟩
theorem DGet.t {H : Hp} {a b : Addr} {kvs : List (List Key × V)} {k : List Key} (e : H a = some (.dT kvs)) (eb : H b = some (.tup (k.map kV))) : DGet H a (.ref b) (valV kvs k) := .inr ⟨kvs, k, b, .inl e, rfl, eb, rfl⟩
theorem DPut.k {H : Hp} {a : Addr} {kvs : List (Key × V)} {k : Key} {v : V} (e : H a = some (.dK kvs)) (hl : kvs.length < sizeLine) : DPut H a (kV k) v (upd H a (.dK (putK kvs k v))) := .inl ⟨kvs, k, e, rfl, hl, rfl⟩
theorem DPut.t {H : Hp} {a b : Addr} {kvs : List (List Key × V)} {k : List Key} {v : V} (e : H a = some (.dT kvs)) (eb : H b = some (.tup (k.map kV))) (hl : kvs.length < sizeLine) :
    DPut H a (.ref b) v (upd H a (.dT (putK kvs k v))) := .inr ⟨kvs, k, b, e, rfl, eb, hl, rfl⟩


section
variable {X : Cx} {pins : List (Addr × Obj)} {σ : St} {H : Hp} {s : Shared} {a : Addr} {y v : V} {u r : Value} {o : Option V} {A : Around} {E : Value → Shared → Prop}

theorem Inv.big (I : Inv X pins σ H s) : sysModules < s.heap.objs.size := by
  have h : mainGlobals < s.heap.objs.size := (I.mod.glob.keeps I.bk).lt
  exact Nat.lt_trans (by decide) h

/-- d[y], there -/
theorem d_getItem {Q : Value → Shared → Prop} (hu : A.units + 1 < cLine) (I : Inv X pins σ H s) (g : DGet H a y (some v)) (ry : RelV y u) (h : ∀ w' s', Inv X pins σ H s' → RelV v w' → Q w' s') :
    wpAny (model X.prog X.w) A (getItem (.ref a) u) Q E s := by
  rcases g with ⟨kvs, k, e, ey, l⟩ | ⟨kvs, k, b, e, ey, eb, l⟩
  · subst ey
    obtain ⟨z, hd, vs, rel, dd⟩ := dk_rd I.hok e
    obtain ⟨w', hw, rw'⟩ := RelO.some_of (v := v) (o := valueAt vs k) (by rw [l]; exact rel.val k)
    exact wpAny_getItem_of (kV_is ry) dd.mapOf hw (h w' _ (I.tok _) rw')
  · subst ey
    cases (show u = Value.ref b from ry)
    obtain ⟨z, hd, xs, rel, dd⟩ := dt_rd I.hok e
    obtain ⟨w', hw, rw'⟩ := RelO.some_of (v := v) (o := (atKey xs k).map (·.2)) (by rw [l]; exact rel.val k)
    obtain ⟨p, hp, hp2⟩ := Option.map_eq_some_iff.mp hw
    refine wpAny_getItem_heap (tupleKind_room_in1 hu) (key_of I.hok eb) dd hp ?_
    rw [hp2]
    exact h w' _ (I.tok _) rw'
/-- a dict's object is replaced -/
theorem d_write {h' : Heap} {t' : Nat} {ob : HO} (I : Inv X pins σ H s) (mu : Mut (H a)) (hs : Heap.SameBut a s.heap h') (he : ∃ q, h'.get? a = some q) (new : ObjOk X.prog X.w (upd H a ob) h' a ob) :
    Inv X pins σ (upd H a ob) { s with heap := h', toks := t' } :=
  I.write (x := a) (e := a) mu (.inl rfl) (fun b q hb z => (hs.2 b hb).trans z) he new
theorem dk_new {P : Program} {w : World} {H' : Hp} {h' : Heap} {kvs : List (Key × V)} {vs : List (Key × Value)} (z : kvs.length ≤ sizeLine) (hd : (a == sysModules) = false) (rel : KV kvs vs) (dd : h'.DictOf (mixKind P w) a vs) :
    ObjOk P w H' h' a (.dK kvs) := ⟨z, hd, vs, rel, dd⟩
/-- d[y] = v -/
theorem d_setItem {H' : Hp} {Q : Unit → Shared → Prop} (hu : A.units + 1 < cLine) (I : Inv X pins σ H s) (g : DPut H a y v H') (ry : RelV y u) (rv : RelV v r) (h : ∀ s', Inv X pins σ H' s' → Q () s') :
    wpAny (model X.prog X.w) A (setItem (.ref a) u r) Q E s := by
  rcases g with ⟨kvs, k, e, ey, l, eH⟩ | ⟨kvs, k, b, e, ey, eb, l, eH⟩
  · subst ey eH
    obtain ⟨z, hd, vs, rel, dd⟩ := dk_of I.hok e
    have hz : vs.length ≤ sizeLine := by rw [← rel.length]; exact z
    have hl : (putK kvs k v).length ≤ sizeLine := by have := length_putK kvs k v; omega
    refine wpAny_setItem_pairs (hsz := hz) (kV_is ry) dd fun h' dd' hs => h _ ?_
    have he : ∃ q, h'.get? a = some q := let ⟨q, _, _, hq, _⟩ := dd'; ⟨q, hq⟩
    exact d_write I (by rw [e]; exact True.intro) hs he (dk_new hl hd (rel.put k rv) dd')
  · subst ey eH
    cases (show u = Value.ref b from ry)
    obtain ⟨z, hd, xs, rel, dd⟩ := dt_of I.hok e
    have hz : xs.length ≤ sizeLine := by rw [← Paired.length rel]; exact z
    have hl : (putK kvs k v).length ≤ sizeLine := by have := length_putK kvs k v; omega
    refine wpAny_setItem_heap (hsz := hz) (tupleKind_room_in1 hu) (key_of I.hok eb) dd fun h' dd' hs => h _ ?_
    obtain ⟨q, es, ep, hq, h2, h3, h4, _, h5⟩ := dd'
    refine d_write I (by rw [e]; exact True.intro) hs ⟨q, hq⟩ ⟨hl, hd, _, (rel.put k eb rv).keeps fun c ys ec => ?_, q, es, ep, hq, h2, h3, h4, h5⟩
    rw [upd_ne (ne_of ec e (fun z => nomatch z))]
    exact ec
end

section
variable {X : Cx} {pins : List (Addr × Obj)} {σ : St} {H : Hp} {s : Shared} {a : Addr} {kvs : List (Key × V)} {k : Key} {u : Value} {A : Around} {E : Value → Shared → Prop}
/-- len(d) -/
theorem d_len {Q : Value → Shared → Prop} (I : Inv X pins σ H s) (e : Rd H a (.dK kvs)) (h : ∀ t s', Inv X pins σ H s' → Q (.int kvs.length t) s') : wpAny (model X.prog X.w) A (call (.builtin "len") [.ref a]) Q E s := by
  obtain ⟨z, hd, vs, rel, dd⟩ := dk_rd I.hok e
  refine call_len_dict hd dd (by rw [← rel.length]; rw [sizeLine_eq] at z; omega) ?_
  rw [← rel.length]
  exact h _ _ (I.tok _)
end


/-! ### readings and rules -/
theorem dict_typeIs {X : Cx} {pins : List (Addr × Obj)} {σ : St} {H : Hp} {s : Shared} {a : Addr} {y : V} {o : Option V} (I : Inv X pins σ H s) (g : DGet H a y o) : s.TypeIs (.ref a) "dict" := by
  rcases g with ⟨kvs, k, e, _, _⟩ | ⟨kvs, k, b, e, _, _, _⟩
  · obtain ⟨_, _, vs, _, dd⟩ := dk_rd I.hok e
    exact dd.typeIs
  · obtain ⟨_, _, xs, _, dd⟩ := dt_rd I.hok e
    exact dd.typeIs
section
variable {X : Cx} {o i e value : Expr} {pos pos' tpos : Pos} {td ty tv : TE}
end


/-! ### displays -/
section
variable {X : Cx} {pos : Pos}
end

/-- the pairs of a display, from the left -/
def tPairs : List (TE × TE) → St → Hp → (List (V × V) → Hp → Prop) → Prop
  | [], _, H, Q => Q [] H
  | (tk, tv) :: r, σ, H, Q => tk σ H fun x H1 => tv σ H1 fun y H2 => tPairs r σ H2 fun ps H3 => Q ((x, y) :: ps) H3
abbrev VV : List (V × V) → List (Value × Value) → Prop := Paired fun p q => RelV p.1 q.1 ∧ RelV p.2 q.2
def PPs (X : Cx) (pos : Pos) (keys : List (Option Expr)) (values : List Expr) (trs : List (TE × TE)) : Prop :=
  ∀ (pins : List (Addr × Obj)) (s : Shared) (σ : St) (H : Hp) (Q : List (V × V) → Hp → Prop), Inv X pins σ H s → tPairs trs σ H Q →
    wpAny (model X.prog X.w) X.A (evalPairs (pairTrees keys values X.env pos)) (fun vs s' => ∃ ps H', Inv X pins σ H' s' ∧ VV ps vs ∧ Q ps H') X.xe s
/-! ### methods -/
/-- a method call o.m(e) of a built-in, with one argument: what must be seen of the text -/
structure M1 (X : Cx) (o : Expr) (m : Str) (apos : Pos) (e : Expr) (cpos : Pos) : Prop where
  base : attributeBase o m X.env (eval o X.env) = eval o X.env
  few : ((backTo cpos (starEach [e] X.env)).all (fun x => !x.1) && (backToKw cpos (keywordEach [] X.env)).all (fun x => x.1.isSome)
    && decide (([e] : List Expr).length + ([] : List Keyword).length + (if ([] : List Keyword).isEmpty then 0 else 1) < 30)) = true
  line : (apos.endLine == cpos.line) = true
  trees : backTo cpos (starEach [e] X.env) = [(false, eval e X.env)]
structure M2 (X : Cx) (o : Expr) (m : Str) (apos : Pos) (e f : Expr) (cpos : Pos) : Prop where
  base : attributeBase o m X.env (eval o X.env) = eval o X.env
  few : ((backTo cpos (starEach [e, f] X.env)).all (fun x => !x.1) && (backToKw cpos (keywordEach [] X.env)).all (fun x => x.1.isSome)
    && decide (([e, f] : List Expr).length + ([] : List Keyword).length + (if ([] : List Keyword).isEmpty then 0 else 1) < 30)) = true
  line : (apos.endLine == cpos.line) = true
  trees : backTo cpos (starEach [e, f] X.env) = [(false, eval e X.env), (false, eval f X.env)]

section
variable {X : Cx} {pins : List (Addr × Obj)} {σ : St} {H : Hp} {s : Shared} {a : Addr} {y d : V} {u r : Value} {o : Option V} {A : Around} {E : Value → Shared → Prop}
end

section
variable {X : Cx} {o e f : Expr} {apos cpos : Pos} {td ty tx : TE}
end

/-! ### dict(d): a copy -/
section
variable {X : Cx} {pins : List (Addr × Obj)} {σ : St} {H : Hp} {s : Shared} {a : Addr} {kvs : List (Key × V)} {A : Around} {E : Value → Shared → Prop}
end


section
variable {X : Cx} {pins : List (Addr × Obj)} {σ : St} {H : Hp} {s : Shared} {a : Addr} {y : V} {u : Value} {A : Around} {E : Value → Shared → Prop}
end
end L2

namespace L2
open PySem PySem.Spec PyProof.Rows

section
variable {prog : Program} {w : World} {A : Around} {E : Value → Shared → Prop}
end

section
variable {X : Cx}
end
end L2

namespace L2
open PySem PySem.Spec PyProof.Rows

section
variable {X : Cx} {pins : List (Addr × Obj)} {σ : St} {H : Hp} {s : Shared} {h' : Heap}
/-- several records of ours have turned -/
theorem Inv.turnedL {t' : Nat} {ch : List Addr} (I : Inv X pins σ H s) (k : ∀ b o, b ∉ ch → s.heap.get? b = some o → h'.get? b = some o) (hf : ∀ b ∈ ch, FpOk X pins H b) : Inv X pins σ H { s with heap := h', toks := t' } := by
  have nit : ∀ b u, H b = some u → b ∉ ch := fun b u e z => by
    have q := (hf b z).1
    rw [q] at e; cases e
  refine I.step (g' := s.gens) (d' := s.drawn) (ch := ch) (fun b hb => ⟨(hf b hb).2.2.2.1, (hf b hb).2.1, (hf b hb).2.2.2.2.1, (hf b hb).2.2.2.2.2⟩) (fun b o _ _ hc e _ => k b o hc e) (fun b o _ _ hc e _ => ⟨o.slots, k b o hc e⟩)
    (fun _ _ _ _ n => n) (fun b o hc e => ⟨o, k b o hc e⟩) (fun _ _ e => e) (fun _ _ _ e => e) (fun b ps e => ⟨#[], by rw [e]; simp⟩) (fun m hm => ?_) (fun b u e => ?_) I.bare
  · obtain ⟨o, es, ep, ho, r⟩ := hm
    exact ⟨o, es, ep, k _ o (fun z => (hf _ z).2.1 rfl) ho, r⟩
  · refine (I.hok b u e).stay (fun c v hc q => k c v ?_ q) (fun _ q => q) fun _ _ q => q
    rcases hc with z | z
    · rw [z]; exact nit b u e
    · exact nit c _ z
/-- .. and one new object is laid -/
theorem Inv.turnedNew {t' : Nat} {ch : List Addr} {T : Addr} {ob : HO} (I : Inv X pins σ H s) (k : ∀ b o, b ∉ ch → s.heap.get? b = some o → h'.get? b = some o) (hf : ∀ b ∈ ch, FpOk X pins H b) (hT : s.heap.objs.size ≤ T)
    (new : ObjOk X.prog X.w (upd H T ob) h' T ob) : Inv X pins σ (upd H T ob) { s with heap := h', toks := t' } := by
  have hn : H T = none := I.hok.fresh hT
  have nit : ∀ b u, H b = some u → b ∉ ch := fun b u e z => by
    have q := (hf b z).1
    rw [q] at e; cases e
  refine I.step (g' := s.gens) (d' := s.drawn) (ch := ch) (fun b hb => ⟨(hf b hb).2.2.2.1, (hf b hb).2.1, (hf b hb).2.2.2.2.1, (hf b hb).2.2.2.2.2⟩) (fun b o _ _ hc e _ => k b o hc e) (fun b o _ _ hc e _ => ⟨o.slots, k b o hc e⟩)
    (fun b o _ e n => ?_) (fun b o hc e => ⟨o, k b o hc e⟩) (fun b xs e => ?_) (fun b o u e => ?_) (fun b ps e => ⟨#[], ?_⟩) (fun m hm => ?_) (fun b u e => ?_) I.bare
  · rw [upd_ne (Nat.ne_of_lt (Nat.lt_of_lt_of_le (Heap.lt_size e) hT))]; exact n
  · rw [upd_ne (ne_of_none e hn)]; exact e
  · rw [upd_ne (ne_of_none e hn)]; exact e
  · rw [upd_ne (ne_of_none e hn), e]; simp
  · obtain ⟨o, es, ep, ho, r⟩ := hm
    exact ⟨o, es, ep, k _ o (fun z => (hf _ z).2.1 rfl) ho, r⟩
  · by_cases hb : b = T
    · subst hb
      rw [upd_same] at e
      cases e
      exact new
    · rw [upd_ne hb] at e
      refine (I.hok b u e).stay (fun c v hc q => k c v ?_ q) (fun c q => by rw [upd_ne (ne_of_none q hn)]; exact q) fun c xs q => by rw [upd_ne (ne_of_none q hn)]; exact q
      rcases hc with z | z
      · rw [z]; exact nit b u e
      · exact nit c _ z

/-! ### locking a thing while a statement runs -/
end
section
variable {X : Cx}
/-! ### one iterator just laid -/
theorem pi_one {tg : Expr} {pins : List (Addr × Obj)} {σ : St} {H : Hp} {s : Shared} {R : It → Hp → Prop} {J : It} {tn : Nat → Heap → Prop} {tk : Nat} (I : Inv X pins σ H s) (o : Obj)
    (T : Turn X.prog X.w X.K tg J [s.heap.objs.size] s.heap.objs.size tn) (st : tn 0 (s.heap.push o)) (q : R J H) : PIE X pins σ tg R (.ref s.heap.objs.size) { s with heap := s.heap.push o, toks := tk } := by
  refine ⟨s.heap.objs.size, [s.heap.objs.size], tn, J, H, rfl, I.kept fun b ob e => Heap.get?_push_of_some _ e, T, st, fun b hb => ?_, q⟩
  have e : b = s.heap.objs.size := by simpa using hb
  subst e
  exact I.fpOk (Nat.le_refl _) (I.hok.fresh (Nat.le_refl _))
end

/-! ### range with a step -/
/-- range(i, j, c): small bounds, n items -/
def RgC (i j c : Int) (n : Nat) : Prop := c ≠ 0 ∧ c.natAbs < 1073741824 ∧ Builtin.Range.small i j c = true ∧ Builtin.Range.rangeSize i j c = n
theorem RgC.neg {i j : Int} (ha : -(2 ^ 62) ≤ i) (ha' : i < 2 ^ 62) (hb : -(2 ^ 62) ≤ j) (hb' : j < 2 ^ 62) : RgC i j (-1) (i - j).toNat :=
  ⟨by decide, by decide, PySem.W.small_down ha ha' hb hb', PySem.W.rangeSize_downNat i j⟩
section
variable {X : Cx} {tg : Expr}
end
/-! ### reversed(list) -/
section
variable {X : Cx} {tg : Expr}
end

/-! ### a str -/
def Its (x : Str) : It := ⟨fun i _ => i < x.cps.size, fun i H v H' => H' = H ∧ ∃ c, x.cps[i]? = some c ∧ v = .str ⟨#[c]⟩, fun i _ => x.cps.size ≤ i⟩
theorem turn_str {P : Program} {w : World} {K : PySem.W.Frag} {tg : Expr} (it : Addr) (x : Str) (t : Tok) (ty : String) (hty : ty = "str_ascii_iterator" ∨ ty = "str_iterator") :
    Turn P w K tg (Its x) [it] it (fun i h => h.IsStrIter it ty x t i) where
  mem := by simp
  obj := fun i h st b hb => by
    have e : b = it := by simpa using hb
    subst e
    obtain ⟨o, e, c, d⟩ := st
    exact ⟨o, e, fun v z => by rw [d] at z; cases z⟩
  keep := fun i h h' st k => let ⟨o, ho, r⟩ := st; ⟨o, k it (by simp) o ho, r⟩
  item := by
    intro X hP hw hK hc i pins s σ H E I hf st hg
    subst hP hw hK
    obtain ⟨f0, f1, f2, f3, f4, f5⟩ := hf it (by simp)
    have W : Walks X.prog X.w X.A it [it] [it] x.cps.size (SignAt x) (fun i h => h.IsStrIter it ty x t i) := by
      rcases hty with e | e
      · rw [e]; exact Walks.strAscii (I.ok.hd hc) it x t
      · rw [e]; exact Walks.strWide (I.ok.hd hc) it x t
    have hno : ["enumerate", "zip", "dict_itemiterator", "dict_reverseitemiterator", "odict_iterator", "itertools.zip_longest", "itertools.pairwise"].contains ty = false := by
      rcases hty with e | e
      · rw [e]; decide
      · rw [e]; decide
    refine W.item i s _ _ hg st fun v h' tk hv st' kk => ?_
    obtain ⟨c, u, hcx, rfl⟩ := hv
    have I1 : Inv X pins σ H { s with heap := h', toks := tk } := I.turned (fun b o hb e => kk b o (by simpa using hb) e) f0 f1 f3 f4 f5
    obtain ⟨oi, e, cc, dd⟩ := id st'
    exact ⟨_, rfl, go_of (s := { s with heap := h', toks := tk }) e cc dd hno ⟨.str ⟨#[c]⟩, H, I1, ⟨u, rfl⟩, ⟨rfl, c, hcx, rfl⟩, st', fun b hb => (hf b hb).1⟩⟩
  done := by
    intro X hP hw hK hc i pins s σ H E I hf st hg
    subst hP hw hK
    obtain ⟨f0, f1, f2, f3, f4, f5⟩ := hf it (by simp)
    have hx : x.cps[i]? = none := Array.getElem?_eq_none hg
    rcases hty with e | e
    · rw [e] at st
      exact wpAny_pyNext_ascii_end (I.ok.hd hc) st hx fun h' eb => ⟨rfl, I.turned (t' := s.toks) (fun b o hb e => eb b o hb e) f0 f1 f3 f4 f5⟩
    · rw [e] at st
      exact wpAny_pyNext_wide_end (I.ok.hd hc) st hx fun h' eb => ⟨rfl, I.turned (t' := s.toks) (fun b o hb e => eb b o hb e) f0 f1 f3 f4 f5⟩
  self := fun A i s Q E st h => by
    rcases hty with e | e
    · rw [e] at st; exact wpAny_pyIter_striter_ascii st h
    · rw [e] at st; exact wpAny_pyIter_striter_wide st h
/-! ### a dict's keys: any dict's entries -/
section
variable {prog : Program} {w : World} {A : Around} {E : Value → Shared → Prop} {s : Shared}
end

/-! ### a locked dict -/
section
variable {X : Cx} {pins : List (Addr × Obj)} {σ : St} {H : Hp} {s : Shared} {d : Addr} {o : Obj}
end

section
variable {P : Program} {w : World} {K : PySem.W.Frag} {tg : Expr} {d : Addr} {o : Obj} {es : Array DictEntry} {ep : Nat}
end

/-! ### for k in d, d.keys(), d.values(), d.items() -/
section
variable {X : Cx} {tg e : Expr} {td : TE} {apos cpos : Pos}
end

/-! ### enumerate(list) -/
/-! ### zip(list, list) -/
theorem boot_zip5 : bootBuiltins "zip" = some (.type "zip") := by decide +kernel
end L2

section 
namespace Bits
open PySem PyProof.Rows

end Bits
end 

section 
namespace TL
open PySem PySem.Builtin PySem.Builtin.Str PySem.StrLaws

abbrev tl (x : Str) : List Nat := x.cps.toList
/-! ### the list functions -/
/-- S stands at the head of l -/
def pre (S l : List Nat) : Bool := l.take S.length == S
/-- what stands before the first S, and behind it -/
def par (S : List Nat) : List Nat → List Nat → Option (List Nat × List Nat)
  | _, [] => none
  | acc, c :: r => if pre S (c :: r) = true then some (acc, (c :: r).drop S.length) else par S (acc ++ [c]) r

/-! ### the model's split and partition are these -/
/-! ### computing spl and par -/
/-! ### digits -/
/-! ### words: x.split() -/
end TL
end 

namespace L2
open PySem PySem.Spec PyProof.Rows

section
variable {X : Cx} {pins : List (Addr × Obj)} {σ : St} {H : Hp} {s : Shared} {Q : VK}
end

section
variable {X : Cx}

/-! ### of a text alone -/
/-! ### of a text and a text -/
end

section
variable {X : Cx} {o e : Expr} {to te : TE}
end
end L2

namespace L2
open PySem PySem.Spec PyProof.Rows

section
variable {X : Cx}
theorem op_gt_str : OpR X (compareOp .Gt) (fun x y H Q => ∃ i j, x = .str i ∧ y = .str j ∧ Q (.bl (decide (j.cps.toList < i.cps.toList))) H) := by
  intro pins s σ H x y v u Q I rx ry h
  obtain ⟨i, j, rfl, rfl, q⟩ := h
  obtain ⟨t, rfl⟩ := rx
  obtain ⟨t', rfl⟩ := ry
  exact PySem.P.gt_str (fin_bl I q rfl)
theorem op_ge_str : OpR X (compareOp .GtE) (fun x y H Q => ∃ i j, x = .str i ∧ y = .str j ∧ Q (.bl (!decide (i.cps.toList < j.cps.toList))) H) := by
  intro pins s σ H x y v u Q I rx ry h
  obtain ⟨i, j, rfl, rfl, q⟩ := h
  obtain ⟨t, rfl⟩ := rx
  obtain ⟨t', rfl⟩ := ry
  exact PySem.P.ge_str (fin_bl I q rfl)
end

/-! ### slices of a text -/
theorem IsPart.raw {v : Value} {o : Option Int} (p : IsPart v o) : ∃ l : Option (Int × Tok), v = partValue l ∧ l.map (·.1) = o := by
  cases p with
  | none => exact ⟨none, rfl, rfl⟩
  | int i t => exact ⟨some (i, t), rfl, rfl⟩

/-- a part, clipped, as the text's slice reckons it -/
def clipS (n d : Nat) : Option Int → Int
  | none => (d : Int)
  | some i => max 0 (min (if i < 0 then i + (n : Int) else i) (n : Int))
theorem clipS_eq (n d : Nat) (o : Option Int) : clipS n d o = ((HT.sIx n d o : Nat) : Int) := by
  cases o with
  | none => rfl
  | some v =>
    show max (0 : Int) (min (if v < 0 then v + (n : Int) else v) (n : Int)) = (((if v < 0 then (v + (n : Int)).toNat else min v.toNat n) : Nat) : Int)
    by_cases hv : v < 0
    · simp only [if_pos hv]
      omega
    · simp only [if_neg hv]
      omega
theorem sidx_clip (a b : Option Int) (n : Nat) : Builtin.Str.strSliceIndices a b 1 n = sliceRange (clipS n 0 a) (clipS n n b) 1 := by
  have h1 : ((1 : Int) > 0) = True := by simp
  cases a <;> cases b <;> first
    | rfl
    | (simp only [Builtin.Str.strSliceIndices, clipS, h1, if_true]; rfl)
    | simp [Builtin.Str.strSliceIndices, clipS]
theorem sidx (a b : Option Int) (n : Nat) : Builtin.Str.strSliceIndices a b 1 n = (List.range (HT.sIx n n b - HT.sIx n 0 a)).map (fun k => HT.sIx n 0 a + k) := by
  rw [sidx_clip, clipS_eq, clipS_eq]
  generalize HT.sIx n 0 a = p
  generalize HT.sIx n n b = q
  simp only [sliceRange, show ((1 : Int) > 0) = True from by simp, if_true]
  by_cases hlt : (p : Int) < q
  · have e3 : (((q : Int) - p + 1 - 1) / 1).toNat = q - p := by first | omega | (simp; done) | (simp; omega)
    simp only [hlt, if_true, e3]
    refine List.map_congr_left fun k _ => ?_
    omega
  · have : q - p = 0 := by omega
    simp [hlt, this]

/-- z[lo:hi] -/
def cutS (z : Str) (lo hi : Option Int) : Str :=
  ⟨((z.cps.toList.drop (HT.sIx z.length 0 lo)).take (HT.sIx z.length z.length hi - HT.sIx z.length 0 lo)).toArray⟩
theorem sliceText_cut (z : Str) (lo hi : Option Int) : PySem.StrLaws.sliceText z lo hi = cutS z lo hi := by
  have h1 : HT.sIx z.length 0 lo ≤ z.length := HT.sIx_le _ _ (Nat.zero_le _) _
  have h2 : HT.sIx z.length z.length hi ≤ z.length := HT.sIx_le _ _ (Nat.le_refl _) _
  have hp : HT.sIx z.length 0 lo ≤ max (HT.sIx z.length 0 lo) (HT.sIx z.length z.length hi) := Nat.le_max_left _ _
  have hq : max (HT.sIx z.length 0 lo) (HT.sIx z.length z.length hi) ≤ z.length := Nat.max_le.mpr ⟨h1, h2⟩
  have hd : max (HT.sIx z.length 0 lo) (HT.sIx z.length z.length hi) - HT.sIx z.length 0 lo = HT.sIx z.length z.length hi - HT.sIx z.length 0 lo := by omega
  have e : Builtin.Str.strSliceIndices lo hi 1 z.length =
      Builtin.Str.strSliceIndices (some ((HT.sIx z.length 0 lo : Nat) : Int)) (some ((max (HT.sIx z.length 0 lo) (HT.sIx z.length z.length hi) : Nat) : Int)) 1 z.length := by
    rw [PySem.StrLaws.strSliceIndices_plain hp hq, hd, sidx]
  have e2 : PySem.StrLaws.sliceText z lo hi =
      PySem.StrLaws.sliceText z (some ((HT.sIx z.length 0 lo : Nat) : Int)) (some ((max (HT.sIx z.length 0 lo) (HT.sIx z.length z.length hi) : Nat) : Int)) := by
    unfold PySem.StrLaws.sliceText
    rw [e]
  rw [e2, PySem.StrLaws.sliceText_nat z hp hq, hd]
  rfl
theorem cutS_length (z : Str) (lo hi : Option Int) : (cutS z lo hi).length ≤ z.length := by
  show (((z.cps.toList.drop (HT.sIx z.length 0 lo)).take (HT.sIx z.length z.length hi - HT.sIx z.length 0 lo)).toArray).size ≤ z.cps.size
  rw [List.size_toArray, List.length_take, List.length_drop, Array.length_toList]
  omega
def rSlS : V → Option Int → Option Int → Hp → VK → Prop := fun x lo hi H Q => ∃ z, x = .str z ∧ z.length ≤ sizeLine ∧ Q (.str (cutS z lo hi)) H
theorem sl_str {X : Cx} : SlR X rSlS := by
  intro pins s σ H x v vl vu lo hi sl Q I rx hs pl pu h
  obtain ⟨z, rfl, hz, q⟩ := h
  obtain ⟨t, rfl⟩ := rx
  obtain ⟨os, hos, hcs, hds⟩ := hs
  obtain ⟨l, rfl, rfl⟩ := IsPart.raw pl
  obtain ⟨u, rfl, rfl⟩ := IsPart.raw pu
  refine ⟨"str", _, F.slot_str_getitem.lookup, typeIs_str _ _ _, ?_⟩
  refine wpAny_getItem_str_slice (l := l) (u := u) (st := none) ⟨os, hos, hcs, hds⟩ rfl ?_
  have hl : (PySem.StrLaws.sliceText z (l.map (·.1)) (u.map (·.1))).length ≤ sizeLine := by
    rw [sliceText_cut]
    exact Nat.le_trans (cutS_length z _ _) hz
  rw [← sliceText_cut] at q
  unfold PySem.StrLaws.sliceText at q hl
  show Made.post (if ((1 : Int) == 1 && (Builtin.Str.strSliceIndices (l.map (·.1)) (u.map (·.1)) 1 z.length).length == z.length) = true then Made.val (.str z t)
    else Made.str ⟨((Builtin.Str.strSliceIndices (l.map (·.1)) (u.map (·.1)) 1 z.length).filterMap (z.cps[·]?)).toArray⟩) (EP X pins σ Q) s
  by_cases c : ((1 : Int) == 1 && (Builtin.Str.strSliceIndices (l.map (·.1)) (u.map (·.1)) 1 z.length).length == z.length) = true
  · rw [if_pos c] at q ⊢
    exact ⟨.str z, H, I, ⟨t, rfl⟩, q⟩
  · rw [if_neg c] at q hl ⊢
    exact ⟨hl, .str _, H, I.tok _, ⟨_, rfl⟩, q⟩
end L2

namespace Att
open PySem PySem.W PySem.Calls PyProof.Rows

/-! ### the script -/
theorem ints_of_wellAll {P : Params} {h : Heap} : ∀ (ns : List Int) (vs : List Value), WellAll P h vs (ns.map WData.int) → IntsAre vs ns := by
  intro ns
  induction ns with
  | nil =>
    intro vs w
    rw [List.map_nil] at w
    cases w
    exact .nil
  | cons n ns ih =>
    intro vs w
    rw [List.map_cons] at w
    cases w with
    | cons a b =>
      cases a
      exact .cons _ _ (ih _ b)

theorem script_of {l : OpenLaw} {n : Nat} (hn : l.most = some n) {P : Params} {h : Heap} {args : List WData} {vals : List Value}
    (hpre : l.row.toRowW.claim.pre args = true) (hwl : WellAll P h vals args) :
    ∃ a vs ns, vals = [Value.ref a] ∧ args = [WData.list (ns.map WData.int)] ∧ h.get? a = some { cls := .type "list", data := .seq vs.toArray } ∧ IntsAre vs ns ∧ ns.length ≤ n := by
  have hsh : WShape.hasAll [] args [.list .int] = true := (pre_splitW hpre).1
  have hc : l.pre.holds [] { args := args } = true := (pre_splitW hpre).2
  obtain ⟨d, r, rfl, h1, h2⟩ := hasAllW_cons hsh
  obtain rfl := hasAllW_nil h2
  obtain ⟨xs, rfl, h3⟩ := hasW_list h1
  obtain ⟨ns, rfl⟩ := items_int h3
  have hlen : ns.length ≤ n := by
    unfold OpenLaw.pre at hc
    have h4 : (WTm.not (.lt (.lit (.int (n : Int))) (.len (.arg 0)))).holds [] { args := [.list (ns.map .int)] } = true := by
      have h4 := (holds_andW hc).1
      rw [hn] at h4
      exact h4
    have h5 := condW_of h4 (w_not (w_lt w_lit (w_len_list (w_arg rfl))))
    rw [List.length_map] at h5
    refine Nat.le_of_not_lt fun q => ?_
    have q' : (n : Int) < ((ns.length : Nat) : Int) := by omega
    first
      | (rw [decide_eq_true q'] at h5; exact absurd h5 (by decide))
      | (simp at h5; omega)
  cases hwl with
  | cons w1 w2 =>
    cases w2
    cases w1 with
    | list ho hall => exact ⟨_, _, ns, rfl, rfl, ho, ints_of_wellAll ns _ hall, hlen⟩

theorem post_true (l : OpenLaw) (args : List WData) : l.row.toRowW.claim.post args (.bool true) args = true :=
  postW_of (r := l.row.toRowW) (X := (true == true))
    (show WShape.has [] (.bool true) .bool = true by first | rfl | decide | simp [WShape.has, WShape.arms, WShape.armsAll])
    (show (WTm.eq .res (.lit (.bool true))).value [] { args := args, res := some (.bool true), after := args } = some (.bool (true == true)) from w_eq_bool (w_res rfl) w_lit) rfl

/-! ### the attachment: holds_open's last premise (the goal 'hc' behind k_head) from a wpAny of the law's body -/
/-- the same from a codeAny of the CALL (for a layer whose function contracts speak of calls) -/
theorem attach_call {l : OpenLaw} {n : Nat} {q : Program} {loose : List Str} {XP : (Str → Option Value) → Heap → Prop} {YP : World → Heap → Prop} {d : DefRec}
    (hn : l.most = some n) (hdf : d.params.defaults = [])
    (call : ∀ (w : World) (s₀ s₁ : Shared) (mg mb : Str → Option Value) (fa : Addr) (o : Obj) (pm cd doc : Value) (a : Addr) (vs : List Value) (ns : List Int),
      Ground q loose [] XP w s₀ mg mb s₁.heap → YP w s₁.heap →
      s₁.heap.get? fa = some o → o.data = .func (docDef d.name d.params d.body d.scope pm cd doc) → s₁.heap.CodeRec cd d.name → mg d.name = some (.ref fa) →
      s₁.heap.get? a = some { cls := .type "list", data := .seq vs.toArray } → IntsAre vs ns → ns.length ≤ n → s₁.gens = #[] →
      codeAny (model l.prog w) callerA (.call (.ref fa) ⟨[.ref a], []⟩) (fun r s' => r = .ok (.ret (.bool true)) ∧ OldK s₁.heap s'.heap ∧ s'.os = s₁.os ∧ AllBare s'.gens) s₁) :
    WalkO q loose XP YP l.row.toRowW d [] (fun f vs => PySem.call f vs) := by
  intro w s₀ s₁ mg mb G Y fa o pm cd doc dV kV ho hd hcd hD hmg hg args vals as hpre hlay hrd hwl hlo
  obtain rfl : dV = .none := Dflts.none hD hdf
  obtain rfl : kV = .none := Dflts.noKw hD
  obtain ⟨a, vs, ns, rfl, rfl, hobj, hints, hlen⟩ := script_of hn hpre hwl
  refine enter_call (codeAny_mono (call w s₀ s₁ mg mb fa o pm cd doc a vs ns G Y ho (fd_plain hd) hcd hmg hobj hints hlen hg) fun r s' hq => ?_)
  obtain ⟨rfl, h2, h3, h4⟩ := hq
  exact ⟨.inl ⟨.bool true, .bool true, [], rfl, fun _ => rfl, .bool true, post_true l _, fun _ => ⟨List.Pairwise.nil, fun _ hm => (nomatch hm)⟩⟩, h2, h3, h4⟩

/-! ### rules over ANY heap (no ledger) from facts about the written part K: the library's own take a ledger (News) for what they write -/
section
variable {prog : Program} {w : World} {A : Around} {E : Value → Shared → Prop} {s : Shared} {K : Frag}

/-! the whole heap as the ledger: makes every rule that writes through a ledger a rule over any heap -/
end
end Att

namespace L2
open PySem PySem.Spec PyProof.Rows

theorem vals_ints : ∀ {vs : List Value} {ns : List Int}, IntsAre vs ns → Vals (ns.map V.int) vs
  | _, _, .nil => .nil
  | _, _, .cons n t h => .cons ⟨t, rfl⟩ (vals_ints h)

end L2

namespace L2
open PySem PySem.Spec PyProof.Rows

end L2

/- THE LAST THEOREM (shape; LID, My.* are yours):
   My.Adr: a structure of the addresses that your layer names (classes, functions); My.Txt K t: a structure (Prop) of the equations over K;
   My.txt_mk : {K} {implicit addresses ..} (e1 : nsIn K mainGlobals "law" = some (some (.ref f))) (e2 : K.lookup f = some ⟨oc, od, .func (fnOf "law" "law" params body scope dV kV doc pm an cdv ct), sl⟩) (e3 : codeIn K cdv "law" = true) .. : ∃ t, My.Txt K t

set_option maxRecDepth 100000 in
set_option maxHeartbeats 0 in
theorem PySem.Challenge.cw_LID_holds : PySem.Challenge.rw_LID.Holds := by
  w_on; o_law; k_head; (case hw => w_witness2)
  k_fill
  refine L2.walk_of (l := PySem.Challenge.rw_LID) (n := 63) (k := 40) (x := "script") (CX := fun w => ..) (sp := fun _ => My.sp_law) rfl (by decide) rfl ⟨rfl, by decide, by decide⟩ (fun w h Y => PySem.W.kIn_of Y) ?F ?S ?C
  case F =>
    intro w mg fa h KX G hmg
    have T : ∃ t, My.Txt (L2.KOf KX) t := by
      dsimp only [L2.KOf]                          -- K must stand as «<heap const> w.params» for k_is
      refine' My.txt_mk ?e1 ?e2 ?e3 ..
      (case e1 => PySem.W.k_is)                    -- in the order: a name -> its address -> its object -> its parts
      (case e2 => PySem.W.k_is)
      ..
    obtain ⟨t, T⟩ := T
    have e0 := hmg.symm.trans (PySem.W.mg_of KX G T.law)
    cases e0                                       -- fa is the law's own address
    exact ⟨_, fun s u => .of_eq rfl, fun base kb nb => My.law_fn T kb nb⟩     -- if «.of_eq rfl» comes too early: refine' ⟨_, ?b, fun base kb nb => My.law_fn T kb nb⟩; exact fun s u => .of_eq rfl
  case S => exact fun w H a ns hl hO hS => ..
  case C => exact ..
(the tactic k_is has no namespace: write k_is) -/

/-! SHORT WORDS over the layer: a def of the text, its body, what a loop and a test want. -/
namespace L2
open PySem PySem.Spec PyProof.Rows

/-! ### the text by places -/
def defArgs (s : Stmt) : Arguments := match s with
  | .FunctionDef _ a _ _ _ _ _ _ _ _ => a
  | _ => { posonlyargs := [], args := [], vararg := none, kwonlyargs := [], kw_defaults := [], kwarg := none, defaults := [] }
def defBody (s : Stmt) : List Stmt := match s with
  | .FunctionDef _ _ b _ _ _ _ _ _ _ => b
  | _ => []
def defScope (s : Stmt) : Scope := match s with
  | .FunctionDef _ _ _ _ _ _ sc _ _ _ => sc
  | _ => { kind := .function, names := [], isGenerator := false, isCoroutine := false }

/-! ### no exception leaves a def -/
abbrev CX0 : CXT := fun _ _ _ _ _ _ => False
abbrev E0 : XK := fun _ _ _ => False
theorem pass0 {X : Cx} : Passes CX0 X E0 := fun _ _ _ _ _ _ _ h => h.elim

/-! ### a def (or method) of the text as it stands behind the top -/
structure Fun (K : PySem.W.Frag) (x qual : Str) (st : Stmt) (f : Addr) (fd : FuncData) : Prop where
  ex : ∃ (oc : Value) (od : Option Addr) (kV doc pm : Value) (an : Option Addr) (cdv ct : Value) (osl : Array (Option Value)),
    fd = PySem.W.fnOf x qual (defArgs st) (defBody st) (defScope st) .none kV doc pm an cdv ct ∧ K.lookup f = some ⟨oc, od, .func fd, osl⟩ ∧ PySem.W.codeIn K cdv qual = true
  kp : PySem.W.keepIn K (.ref f) = true
section
variable {P : Program} {w : World} {K : PySem.W.Frag} {mg : Str → Option Value} {base : Heap}
/-- THE RULE for a def: its body as a term of rules, and the reading of that term -/
theorem Fun.ok {x qual : Str} {st : Stmt} {f : Addr} {fd : FuncData} {N ps : List Str} {k : Nat} {sp : Sp} (F : Fun K x qual st f fd) (S : FnScope N ps (defScope st)) (len : ∀ vs H Q E, sp vs H Q E → vs.length = ps.length)
    (hbody : ∀ (cdv : Value) (A : Around) (outer : List Env) (s : Shared) (H : Hp) (vs : List V) (Q : VK) (E : XK), Room k (A.deeper (envOfC qual (defScope st) s.heap.objs.size f cdv)) → sp vs H Q E →
      ∃ t, PSs (cxOf CX0 P w K mg base N qual (defScope st) f cdv A outer s H E).nox (defBody st) t ∧ t { nx := fun _ H' => Q .non H', rt := Q } (start N vs) H) : FnOk P w K mg base CX0 (k + 1) f fd ps sp := by
  obtain ⟨oc, od, kV, doc, pm, an, cdv, ct, osl, rfl, lk, hcd⟩ := F.ex
  refine fn_of lk hcd S len fun A outer s H vs Q E hr hsp => ?_
  obtain ⟨t, h, q⟩ := hbody cdv A outer s H vs Q E hr hsp
  exact ⟨t, h.nox, q⟩
/-- how its arguments bind (no defaults): h is «fun _ _ _ _ _ _ us hl => match us, hl with | [_, _], _ => rfl», one _ a parameter -/
theorem Fun.binds {x qual : Str} {st : Stmt} {f : Addr} {fd : FuncData} {ps : List Str} (F : Fun K x qual st f fd)
    (h : ∀ (kV doc pm : Value) (an : Option Addr) (cdv ct : Value) (us : List Value), us.length = ps.length → bindArgs (PySem.W.fnOf x qual (defArgs st) (defBody st) (defScope st) .none kV doc pm an cdv ct) ⟨us, []⟩ = pure (ps.zip us)) : Binds K fd ps [] := by
  obtain ⟨oc, od, kV, doc, pm, an, cdv, ct, osl, rfl, lk, hcd⟩ := F.ex
  exact .all (h kV doc pm an cdv ct)
theorem fun_mk {x qual : Str} {st : Stmt} {f : Addr} {oc : Value} {od an : Option Addr} {osl : Array (Option Value)} {kV doc pm cdv ct : Value} (l : K.lookup f = some ⟨oc, od, .func (PySem.W.fnOf x qual (defArgs st) (defBody st) (defScope st) .none kV doc pm an cdv ct), osl⟩)
    (c : PySem.W.codeIn K cdv qual = true) (k : PySem.W.keepIn K (.ref f) = true) : Fun K x qual st f (PySem.W.fnOf x qual (defArgs st) (defBody st) (defScope st) .none kV doc pm an cdv ct) := ⟨⟨oc, od, kV, doc, pm, an, cdv, ct, osl, rfl, l, c⟩, k⟩
end
theorem hu_of {A : Around} {k : Nat} (hr : Room k A) : A.units + 1 < cLine := Nat.lt_of_le_of_lt (Nat.add_le_add_left (by decide : 1 ≤ 64) _) hr.units
/-! ### expressions in short: the name that stands in the i-th slot -/
section
variable {X : Cx}
/-- len of a dict -/
theorem call_lenD : CallR X (.builtin "len") (fun xs H Q => ∃ a kvs, xs = [V.ref a] ∧ H a = some (.dK kvs) ∧ Q (.int kvs.length) H) := by
  intro pins s σ H xs us Q I r h
  obtain ⟨a, kvs, rfl, ha, q⟩ := h
  obtain ⟨u, rfl, ru⟩ := vals1 r
  cases ru
  exact d_len I (.inl ha) fun t s' I' => ⟨.int kvs.length, H, I', ⟨t, rfl⟩, q⟩
end

/-! ### tests -/
theorem iteF {A B : Prop} (h : B) : if false = true then A else B := by
  rw [if_neg Bool.false_ne_true]
  exact h
theorem iteT {A B : Prop} (h : A) : if true = true then A else B := by
  rw [if_pos rfl]
  exact h
/-! ### heaps -/
/-- all that was tracked is as it was -/
def Same (H H' : Hp) : Prop := ∀ b o, H b = some o → H' b = some o
theorem Same.refl (H : Hp) : Same H H := fun _ _ h => h
theorem Same.trans {H H1 H2 : Hp} (a : Same H H1) (b : Same H1 H2) : Same H H2 := fun c o h => b c o (a c o h)
theorem Same.free {H H' : Hp} (e : Same H H') {l : Addr} (h : H' l = Option.none) : H l = Option.none := by
  cases q : H l with
  | none => rfl
  | some o =>
    rw [e l o q] at h
    cases h
theorem Same.seq {K : PySem.W.Frag} {H H' : Hp} {a : Addr} {xs : List V} (e : Same H H') (h : SqL K H a xs) : SqL K H' a xs := by
  rcases h with (h | ⟨o, h⟩) | h
  · exact .inl (.inl (e _ _ h))
  · exact .inl (.inr ⟨o, e _ _ h⟩)
  · exact .inr h

/-! ### a dict's pairs: keys that differ -/
section
variable {κ : Type} [DecidableEq κ]
end
/-! ### lists -/
end L2

set_option Elab.async false
set_option linter.all false
set_option maxRecDepth 100000
set_option maxHeartbeats 4000000
/-! A mirror over the hand layer: tuples are plain data, lists and dicts stand in a memory by their number. -/
namespace L2
open PySem PySem.Spec
/-- the table of a code object: it may only grow -/
def TabO (P : Addr) (ps : Array Value) : HO := .ext fun h => ∃ more : Array Value, h.get? P = some { cls := .none, data := .fields (ps ++ more) } ∧ TriplesOk (ps ++ more).toList
/-- the tables that the written part tells of, in its last entry -/
def tabsOf (K : PySem.W.Frag) : List Addr := match K.getLast? with
  | some (_, ⟨.none, none, .fields vs, _⟩) => vs.toList.filterMap fun v => match v with
    | .ref a => some a
    | _ => none
  | _ => []
end L2
namespace Mir
open PySem PySem.Spec L2

inductive D where
  | non | bl (b : Bool) | int (i : Int) | str (x : Str) | tup (xs : List D) | obj (i : Nat) | rol (xs : List D) | ty (n : String)
/-- what stands in the memory -/
inductive MO where
  | lst (xs : List D)
  | dic (kvs : List (Key × D))
  | dro (kvs : List (Key × D))
  | dct (kvs : List (List Key × D))
  | dto (kvs : List (List Key × D))
abbrev Mem := List MO
abbrev DSt := List (Option D)

/-- a list that nobody changes: the script -/
def SqF (K : PySem.W.Frag) (H : Hp) (a : Addr) (xs : List V) : Prop := (∃ o, H a = some (.frz o (.lst xs))) ∨
  ∃ (o : Obj) (its : Array Value) (n : Nat), K.lookup a = some o ∧ o.cls = .type "list" ∧ o.dict = none ∧ o.data = .seq its n ∧ its.size ≤ sizeLine ∧ Vals xs its.toList
theorem SqF.sq {K : PySem.W.Frag} {H : Hp} {a : Addr} {xs : List V} (h : SqF K H a xs) : SqL K H a xs := by
  rcases h with ⟨o, h⟩ | h
  · exact .inl (.inr ⟨o, h⟩)
  · exact .inr h
mutual
inductive RelD (K : PySem.W.Frag) (ι : List Addr) (H : Hp) : D → V → Prop
  | non : RelD K ι H .non .non
  | bl (b : Bool) : RelD K ι H (.bl b) (.bl b)
  | int (i : Int) : RelD K ι H (.int i) (.int i)
  | str (x : Str) : RelD K ι H (.str x) (.str x)
  | tup {a : Addr} {xs : List D} {vs : List V} : SqT K H a vs → RelDs K ι H xs vs → RelD K ι H (.tup xs) (.ref a)
  | obj {i : Nat} {a : Addr} : ι[i]? = some a → RelD K ι H (.obj i) (.ref a)
  | ty (n : String) : RelD K ι H (.ty n) (.ty n)
  | rol {a : Addr} {xs : List D} {vs : List V} : SqF K H a vs → RelDs K ι H xs vs → RelD K ι H (.rol xs) (.ref a)
inductive RelDs (K : PySem.W.Frag) (ι : List Addr) (H : Hp) : List D → List V → Prop
  | nil : RelDs K ι H [] []
  | cons {d : D} {v : V} {ds : List D} {vs : List V} : RelD K ι H d v → RelDs K ι H ds vs → RelDs K ι H (d :: ds) (v :: vs)
end

structure Lo (K : PySem.W.Frag) (ι : List Addr) (H : Hp) (ι' : List Addr) (H' : Hp) : Prop where
  ix : ∀ (i : Nat) (a : Addr), ι[i]? = some a → ι'[i]? = some a
  tp : ∀ a xs, SqT K H a xs → SqT K H' a xs
  rl : ∀ a xs, SqF K H a xs → SqF K H' a xs
  tb : ∀ a φ, H a = some (HO.ext φ) → H' a = some (HO.ext φ)
structure Le (K : PySem.W.Frag) (ι : List Addr) (H : Hp) (ι' : List Addr) (H' : Hp) : Prop where
  ix : ∀ (i : Nat) (a : Addr), ι[i]? = some a → ι'[i]? = some a
  tp : ∀ a xs, SqT K H a xs → SqT K H' a xs
  rl : ∀ a xs, SqF K H a xs → SqF K H' a xs
  kp : ∀ a o, H a = some o → a ∉ ι → H' a = some o ∧ a ∉ ι'
  fz : ∀ a o u, H a = some (.frz o u) → H' a = some (.frz o u)
  tb : ∀ a φ, H a = some (HO.ext φ) → H' a = some (HO.ext φ)
theorem Le.refl {K ι H} : Le K ι H ι H := ⟨fun _ _ h => h, fun _ _ h => h, fun _ _ h => h, fun _ _ h n => ⟨h, n⟩, fun _ _ _ h => h, fun _ _ h => h⟩
theorem Le.lo {K ι H ι' H'} (l : Le K ι H ι' H') : Lo K ι H ι' H' := ⟨l.ix, l.tp, l.rl, l.tb⟩
instance {K : PySem.W.Frag} {ι : List Addr} {H : Hp} {ι' : List Addr} {H' : Hp} : CoeOut (Le K ι H ι' H') (Lo K ι H ι' H') := ⟨Le.lo⟩
theorem Le.trans {K ι H ι1 H1 ι2 H2} (a : Le K ι H ι1 H1) (b : Le K ι1 H1 ι2 H2) : Le K ι H ι2 H2 :=
  ⟨fun i x h => b.ix i x (a.ix i x h), fun p xs h => b.tp p xs (a.tp p xs h), fun p xs h => b.rl p xs (a.rl p xs h), fun p o h n => b.kp p o (a.kp p o h n).1 (a.kp p o h n).2, fun p o u h => b.fz p o u (a.fz p o u h), fun p φ h => b.tb p φ (a.tb p φ h)⟩

variable {K : PySem.W.Frag} {ι ι' : List Addr} {H H' : Hp}
mutual
theorem RelD.mono (le : Lo K ι H ι' H') : ∀ {d : D} {v : V}, RelD K ι H d v → RelD K ι' H' d v
  | _, _, .non => .non
  | _, _, .bl b => .bl b
  | _, _, .int i => .int i
  | _, _, .str x => .str x
  | _, _, .tup h r => .tup (le.tp _ _ h) (RelDs.mono le r)
  | _, _, .obj h => .obj (le.ix _ _ h)
  | _, _, .ty n => .ty n
  | _, _, .rol h r => .rol (le.rl _ _ h) (RelDs.mono le r)
theorem RelDs.mono (le : Lo K ι H ι' H') : ∀ {ds : List D} {vs : List V}, RelDs K ι H ds vs → RelDs K ι' H' ds vs
  | _, _, .nil => .nil
  | _, _, .cons r t => .cons (RelD.mono le r) (RelDs.mono le t)
end
theorem RelDs.length : ∀ {ds : List D} {vs : List V}, RelDs K ι H ds vs → ds.length = vs.length
  | _, _, .nil => rfl
  | _, _, .cons _ t => congrArg (· + 1) (RelDs.length t)
theorem RelDs.get : ∀ {ds : List D} {vs : List V} {i : Nat} {d : D}, RelDs K ι H ds vs → ds[i]? = some d → ∃ v, vs[i]? = some v ∧ RelD K ι H d v
  | _, _, _, _, .nil, e => by simp at e
  | _, _, 0, _, .cons r _, e => by simp at e; subst e; exact ⟨_, rfl, r⟩
  | _, _, i + 1, d, .cons _ t, e => by
    obtain ⟨v, h1, h2⟩ := RelDs.get (i := i) (d := d) t (by simpa using e)
    exact ⟨v, by simpa using h1, h2⟩
theorem RelDs.append : ∀ {xs ys : List D} {us ws : List V}, RelDs K ι H xs us → RelDs K ι H ys ws → RelDs K ι H (xs ++ ys) (us ++ ws)
  | _, _, _, _, .nil, s => s
  | _, _, _, _, .cons r t, s => .cons r (RelDs.append t s)
theorem RelDs.set {d : D} {v : V} (r : RelD K ι H d v) : ∀ {xs : List D} {us : List V} (i : Nat), RelDs K ι H xs us → RelDs K ι H (xs.set i d) (us.set i v)
  | _, _, _, .nil => .nil
  | _, _, 0, .cons _ t => .cons r t
  | _, _, i + 1, .cons q t => .cons q (RelDs.set r i t)
theorem RelDs.take : ∀ {xs : List D} {us : List V} (n : Nat), RelDs K ι H xs us → RelDs K ι H (xs.take n) (us.take n)
  | _, _, 0, _ => .nil
  | _, _, _ + 1, .nil => .nil
  | _, _, n + 1, .cons r t => .cons r (RelDs.take n t)
theorem RelDs.drop : ∀ {xs : List D} {us : List V} (n : Nat), RelDs K ι H xs us → RelDs K ι H (xs.drop n) (us.drop n)
  | _, _, 0, r => r
  | _, _, _ + 1, .nil => .nil
  | _, _, n + 1, .cons _ t => RelDs.drop n t
theorem RelDs.eraseIdx : ∀ {xs : List D} {us : List V} (i : Nat), RelDs K ι H xs us → RelDs K ι H (xs.eraseIdx i) (us.eraseIdx i)
  | _, _, _, .nil => .nil
  | _, _, 0, .cons _ t => t
  | _, _, i + 1, .cons r t => .cons r (RelDs.eraseIdx i t)
theorem RelDs.reverse {xs : List D} {us : List V} (h : RelDs K ι H xs us) : RelDs K ι H xs.reverse us.reverse := by
  induction xs generalizing us with
  | nil => cases h; exact .nil
  | cons a r ih =>
    cases h with
    | cons q t => rw [List.reverse_cons, List.reverse_cons]; exact (ih t).append (.cons q .nil)

def RelKs {κ : Type} (K : PySem.W.Frag) (ι : List Addr) (H : Hp) (kvs : List (κ × D)) (kvs' : List (κ × V)) : Prop :=
  kvs.map (·.1) = kvs'.map (·.1) ∧ RelDs K ι H (kvs.map (·.2)) (kvs'.map (·.2))
theorem RelKs.mono {κ : Type} (le : Lo K ι H ι' H') {kvs : List (κ × D)} {kvs' : List (κ × V)} (h : RelKs K ι H kvs kvs') : RelKs K ι' H' kvs kvs' := ⟨h.1, h.2.mono le⟩

def ObjR (K : PySem.W.Frag) (ι : List Addr) (H : Hp) (a : Addr) : MO → Prop
  | .lst xs => ∃ vs, H a = some (.lst vs) ∧ RelDs K ι H xs vs
  | .dic kvs => ∃ kvs', H a = some (.dK kvs') ∧ RelKs K ι H kvs kvs'
  | .dro kvs => ∃ o kvs', H a = some (.frz o (.dK kvs')) ∧ RelKs K ι H kvs kvs'
  | .dct kvs => ∃ kvs', H a = some (.dT kvs') ∧ RelKs K ι H kvs kvs'
  | .dto kvs => ∃ o kvs', H a = some (.frz o (.dT kvs')) ∧ RelKs K ι H kvs kvs'
theorem ObjR.there {a : Addr} {mo : MO} (h : ObjR K ι H a mo) : ∃ o, H a = some o := by
  cases mo with
  | lst xs => obtain ⟨_, e, _⟩ := h; exact ⟨_, e⟩
  | dic xs => obtain ⟨_, e, _⟩ := h; exact ⟨_, e⟩
  | dro xs => obtain ⟨_, _, e, _⟩ := h; exact ⟨_, e⟩
  | dct xs => obtain ⟨_, e, _⟩ := h; exact ⟨_, e⟩
  | dto xs => obtain ⟨_, _, e, _⟩ := h; exact ⟨_, e⟩
theorem ObjR.keep {a : Addr} {mo : MO} (h : ObjR K ι H a mo) (e : H' a = H a) (le : Lo K ι H ι' H') : ObjR K ι' H' a mo := by
  cases mo with
  | lst xs => obtain ⟨vs, q, r⟩ := h; exact ⟨vs, e.trans q, r.mono le⟩
  | dic xs => obtain ⟨vs, q, r⟩ := h; exact ⟨vs, e.trans q, r.mono le⟩
  | dro xs => obtain ⟨o, vs, q, r⟩ := h; exact ⟨o, vs, e.trans q, r.mono le⟩
  | dct xs => obtain ⟨vs, q, r⟩ := h; exact ⟨vs, e.trans q, r.mono le⟩
  | dto xs => obtain ⟨o, vs, q, r⟩ := h; exact ⟨o, vs, e.trans q, r.mono le⟩

structure RelM (K : PySem.W.Frag) (ι : List Addr) (H : Hp) (M : Mem) : Prop where
  len : ι.length = M.length
  nd : ι.Nodup
  ob : ∀ (i : Nat) (a : Addr) (mo : MO), ι[i]? = some a → M[i]? = some mo → ObjR K ι H a mo
  tb : ∀ T ∈ tabsOf K, ∃ ps, H T = some (TabO T ps)

variable {M : Mem}
theorem RelM.at (h : RelM K ι H M) {i : Nat} {mo : MO} (e : M[i]? = some mo) : ∃ a, ι[i]? = some a ∧ ObjR K ι H a mo := by
  have hi : i < M.length := (List.getElem?_eq_some_iff.mp e).1
  have hi' : i < ι.length := by rw [h.len]; exact hi
  exact ⟨ι[i], List.getElem?_eq_getElem hi', h.ob i _ mo (List.getElem?_eq_getElem hi') e⟩
theorem RelM.mem (h : RelM K ι H M) {a : Addr} (m : a ∈ ι) : ∃ o, H a = some o := by
  obtain ⟨i, hi, rfl⟩ := List.mem_iff_getElem.mp m
  have hi' : i < M.length := by rw [← h.len]; exact hi
  exact (h.ob i _ _ (List.getElem?_eq_getElem hi) (List.getElem?_eq_getElem hi')).there
theorem le_new {p : Addr} {o : HO} (h : H p = none) : Le K ι H (ι ++ [p]) (upd H p o) :=
  ⟨fun i a e => by rw [List.getElem?_append_left (List.getElem?_eq_some_iff.mp e).1]; exact e, fun a xs q => by
    rcases q with (q | ⟨u, q⟩) | q
    · exact .inl (.inl (by rw [upd_ne (ne_of_none q h)]; exact q))
    · exact .inl (.inr ⟨u, by rw [upd_ne (ne_of_none q h)]; exact q⟩)
    · exact .inr q, fun a xs q => by
    rcases q with ⟨u, q⟩ | q
    · exact .inl ⟨u, by rw [upd_ne (ne_of_none q h)]; exact q⟩
    · exact .inr q, fun a u q n => ⟨by rw [upd_ne (ne_of_none q h)]; exact q, fun m => by
      rcases List.mem_append.mp m with m | m
      · exact n m
      · exact ne_of_none q h (by simpa using m)⟩, fun a o u q => by rw [upd_ne (ne_of_none q h)]; exact q, fun a u q => by rw [upd_ne (ne_of_none q h)]; exact q⟩
theorem le_new0 {p : Addr} {o : HO} (h : H p = none) : Le K ι H ι (upd H p o) :=
  ⟨fun i a e => e, (le_new (ι := ι) h).tp, (le_new (ι := ι) h).rl, fun a u q n => ⟨by rw [upd_ne (ne_of_none q h)]; exact q, n⟩, fun a o u q => by rw [upd_ne (ne_of_none q h)]; exact q, fun a u q => by rw [upd_ne (ne_of_none q h)]; exact q⟩
def NoTup : HO → Prop
  | .tup _ => False
  | .frz _ _ => False
  | .ext _ => False
  | _ => True
theorem le_upd {a : Addr} {o o' : HO} (hi : a ∈ ι) (h : H a = some o) (n : NoTup o) : Le K ι H ι (upd H a o') :=
  ⟨fun i a e => e, fun b xs q => by
    rcases q with (q | ⟨u, q⟩) | q
    · exact .inl (.inl (by rw [upd_ne (ne_of q h (by rintro rfl; exact n))]; exact q))
    · exact .inl (.inr ⟨u, by rw [upd_ne (ne_of q h (by rintro rfl; exact n))]; exact q⟩)
    · exact .inr q, fun b xs q => by
    rcases q with ⟨u, q⟩ | q
    · exact .inl ⟨u, by rw [upd_ne (ne_of q h (by rintro rfl; exact n))]; exact q⟩
    · exact .inr q, fun b u q m => ⟨by rw [upd_ne (fun z => m (by rw [z]; exact hi))]; exact q, m⟩, fun b o' u q => by rw [upd_ne (ne_of q h (by rintro rfl; exact n))]; exact q, fun b u q => by rw [upd_ne (ne_of q h (by rintro rfl; exact n))]; exact q⟩
theorem RelM.new {p : Addr} {o : HO} {mo : MO} (h : RelM K ι H M) (hp : H p = none) (r : ObjR K (ι ++ [p]) (upd H p o) p mo) : RelM K (ι ++ [p]) (upd H p o) (M ++ [mo]) := by
  have np : p ∉ ι := fun m => by obtain ⟨o, e⟩ := h.mem m; rw [hp] at e; cases e
  refine ⟨by simp [h.len], ?_, fun i a m e1 e2 => ?_, fun T hT => let ⟨ps, e⟩ := h.tb T hT; ⟨ps, (le_new (ι := ι) (K := K) hp).tb _ _ e⟩⟩
  · rw [List.nodup_append]
    refine ⟨h.nd, by simp, fun a ha b hb => ?_⟩
    have : b = p := by simpa using hb
    subst this
    rintro rfl
    exact np ha
  · by_cases hi : i < ι.length
    · rw [List.getElem?_append_left hi] at e1
      rw [List.getElem?_append_left (by rw [← h.len]; exact hi)] at e2
      have q := h.ob i a m e1 e2
      obtain ⟨o', e'⟩ := q.there
      exact q.keep (upd_ne (ne_of_none e' hp)) (le_new hp).lo
    · have hl : i < (ι ++ [p]).length := (List.getElem?_eq_some_iff.mp e1).1
      simp at hl
      have : i = ι.length := by omega
      subst this
      rw [List.getElem?_append_right (Nat.le_refl _)] at e1
      rw [List.getElem?_append_right (by rw [h.len]; exact Nat.le_refl _)] at e2
      simp [h.len] at e1 e2
      subst e1 e2
      exact r
/-- the heap changed, but not where the memory lies -/
theorem RelM.keep (h : RelM K ι H M) (e : ∀ a ∈ ι, H' a = H a) (le : Lo K ι H ι H') : RelM K ι H' M :=
  ⟨h.len, h.nd, fun i a mo e1 e2 => (h.ob i a mo e1 e2).keep (e a (List.mem_of_getElem? e1)) le, fun T hT => let ⟨ps, e⟩ := h.tb T hT; ⟨ps, le.tb _ _ e⟩⟩
theorem RelM.new0 {p : Addr} {o : HO} (h : RelM K ι H M) (hp : H p = none) : RelM K ι (upd H p o) M :=
  h.keep (fun a ha => by obtain ⟨u, e⟩ := h.mem ha; exact upd_ne (ne_of_none e hp)) (le_new0 hp).lo
theorem RelM.setL {i : Nat} {a : Addr} {o' : HO} {mo' : MO} (h : RelM K ι H M) (hi : ι[i]? = some a) (lo : Lo K ι H ι (upd H a o')) (r : ObjR K ι (upd H a o') a mo') : RelM K ι (upd H a o') (M.set i mo') := by
  refine ⟨by simp [h.len], h.nd, fun j b m e1 e2 => ?_, fun T hT => let ⟨ps, e⟩ := h.tb T hT; ⟨ps, lo.tb _ _ e⟩⟩
  by_cases hj : i = j
  · subst hj
    rw [hi] at e1
    cases e1
    rw [List.getElem?_set] at e2
    simp only [if_true] at e2
    split at e2
    · cases e2; exact r
    · cases e2
  · have hb : b ≠ a := fun z => by
      subst z
      obtain ⟨h1, h1'⟩ := List.getElem?_eq_some_iff.mp hi
      obtain ⟨h2, h2'⟩ := List.getElem?_eq_some_iff.mp e1
      exact hj ((List.getElem_inj (h₀ := h1) (h₁ := h2) h.nd).mp (h1'.trans h2'.symm))
    rw [List.getElem?_set_ne hj] at e2
    exact (h.ob j b m e1 e2).keep (upd_ne hb) lo
theorem RelM.set {i : Nat} {a : Addr} {o o' : HO} {mo' : MO} (h : RelM K ι H M) (hi : ι[i]? = some a) (ha : H a = some o) (n : NoTup o) (r : ObjR K ι (upd H a o') a mo') : RelM K ι (upd H a o') (M.set i mo') := by
  refine ⟨by simp [h.len], h.nd, fun j b m e1 e2 => ?_, fun T hT => let ⟨ps, e⟩ := h.tb T hT; ⟨ps, (le_upd (K := K) (List.mem_of_getElem? hi) ha n).tb _ _ e⟩⟩
  by_cases hj : i = j
  · subst hj
    rw [hi] at e1
    cases e1
    rw [List.getElem?_set] at e2
    simp only [if_true] at e2
    split at e2
    · cases e2; exact r
    · cases e2
  · have hb : b ≠ a := fun z => by
      subst z
      obtain ⟨h1, h1'⟩ := List.getElem?_eq_some_iff.mp hi
      obtain ⟨h2, h2'⟩ := List.getElem?_eq_some_iff.mp e1
      exact hj ((List.getElem_inj (h₀ := h1) (h₁ := h2) h.nd).mp (h1'.trans h2'.symm))
    rw [List.getElem?_set_ne hj] at e2
    exact (h.ob j b m e1 e2).keep (upd_ne hb) (le_upd (List.mem_of_getElem? hi) ha n).lo

theorem RelM.add {a : Addr} {mo : MO} (h : RelM K ι H M) (na : a ∉ ι) (r : ObjR K (ι ++ [a]) H a mo) : RelM K (ι ++ [a]) H (M ++ [mo]) := by
  have lo : Lo K ι H (ι ++ [a]) H := ⟨fun i b e => by rw [List.getElem?_append_left (List.getElem?_eq_some_iff.mp e).1]; exact e, fun _ _ h => h, fun _ _ h => h, fun _ _ h => h⟩
  refine ⟨by simp [h.len], ?_, fun i b m e1 e2 => ?_, h.tb⟩
  · rw [List.nodup_append]
    refine ⟨h.nd, by simp, fun b hb c hc => ?_⟩
    have : c = a := by simpa using hc
    subst this
    rintro rfl
    exact na hb
  · by_cases hi : i < ι.length
    · rw [List.getElem?_append_left hi] at e1
      rw [List.getElem?_append_left (by rw [← h.len]; exact hi)] at e2
      exact (h.ob i b m e1 e2).keep rfl lo
    · have hl : i < (ι ++ [a]).length := (List.getElem?_eq_some_iff.mp e1).1
      simp at hl
      have : i = ι.length := by omega
      subst this
      rw [List.getElem?_append_right (Nat.le_refl _)] at e1
      rw [List.getElem?_append_right (by rw [h.len]; exact Nat.le_refl _)] at e2
      simp [h.len] at e1 e2
      subst e1 e2
      exact r
/-- the slots -/
def RelS (K : PySem.W.Frag) (ι : List Addr) (H : Hp) (δ : DSt) (σ : St) : Prop :=
  δ.length = σ.length ∧ ∀ (i : Nat) (d : D), δ[i]? = some (some d) → ∃ v, σ[i]? = some (some v) ∧ RelD K ι H d v
theorem RelS.mono (le : Lo K ι H ι' H') {δ σ} (h : RelS K ι H δ σ) : RelS K ι' H' δ σ :=
  ⟨h.1, fun i d e => by obtain ⟨v, q, r⟩ := h.2 i d e; exact ⟨v, q, r.mono le⟩⟩
theorem RelS.set {δ σ} (h : RelS K ι H δ σ) {d v} (r : RelD K ι H d v) (i : Nat) : RelS K ι H (δ.set i (some d)) (σ.set i (some v)) := by
  refine ⟨by simp [h.1], fun j e hj => ?_⟩
  by_cases hij : i = j
  · subst hij
    rw [List.getElem?_set] at hj
    simp only [if_true] at hj
    split at hj
    · cases hj
      have : i < σ.length := by rw [← h.1]; assumption
      exact ⟨v, by simp [List.getElem?_set, this], r⟩
    · cases hj
  · rw [List.getElem?_set_ne hij] at hj
    obtain ⟨u, q, r⟩ := h.2 j e hj
    exact ⟨u, by rw [List.getElem?_set_ne hij]; exact q, r⟩

abbrev mE := DSt → Mem → Option (D × Mem)
abbrev mT := DSt → Mem → Option (Bool × Mem)
abbrev mA := DSt → Mem → Option (List D × Mem)
inductive Fl where
  | nx (δ : DSt) | rt (d : D) | bk (δ : DSt) | ct (δ : DSt)
abbrev mS := DSt → Mem → Option (Fl × Mem)

def tM (K : PySem.W.Frag) (m : mE) : TE := fun σ H Q => ∃ ι δ M d M', RelS K ι H δ σ ∧ RelM K ι H M ∧ m δ M = some (d, M') ∧
  ∀ ι' H' v, Le K ι H ι' H' → RelM K ι' H' M' → RelD K ι' H' d v → Q v H'
def tMT (K : PySem.W.Frag) (m : mT) : TT := fun σ H Q => ∃ ι δ M b M', RelS K ι H δ σ ∧ RelM K ι H M ∧ m δ M = some (b, M') ∧
  ∀ ι' H', Le K ι H ι' H' → RelM K ι' H' M' → Q b H'
def tMA (K : PySem.W.Frag) (m : mA) : TA := fun σ H Q => ∃ ι δ M d M', RelS K ι H δ σ ∧ RelM K ι H M ∧ m δ M = some (d, M') ∧
  ∀ ι' H' v, Le K ι H ι' H' → RelM K ι' H' M' → RelDs K ι' H' d v → Q v H'
def endS (K : PySem.W.Frag) (ι : List Addr) (H : Hp) (E : Ends) : Fl → Prop
  | .nx δ => ∀ σ, RelS K ι H δ σ → E.nx σ H
  | .bk δ => ∀ σ, RelS K ι H δ σ → E.bk σ H
  | .ct δ => ∀ σ, RelS K ι H δ σ → E.ct σ H
  | .rt d => ∀ v, RelD K ι H d v → E.rt v H
def tMS (K : PySem.W.Frag) (m : mS) : TS := fun E σ H => ∃ ι δ M f M', RelS K ι H δ σ ∧ RelM K ι H M ∧ m δ M = some (f, M') ∧
  ∀ ι' H', Le K ι H ι' H' → RelM K ι' H' M' → endS K ι' H' E f

theorem PE.imp {X : Cx} {e : Expr} {t t' : TE} (h : PE X e t) (f : ∀ σ H Q, t' σ H Q → t σ H Q) : PE X e t' := fun pins s σ H Q I q => h pins s σ H Q I (f _ _ _ q)
theorem PT.imp {X : Cx} {e : Expr} {t t' : TT} (h : PT X e t) (f : ∀ σ H Q, t' σ H Q → t σ H Q) : PT X e t' := fun pins s σ H Q I q => h pins s σ H Q I (f _ _ _ q)
theorem PW.imp {X : Cx} {e : Expr} {t t' : TT} (h : PW X e t) (f : ∀ σ H Q, t' σ H Q → t σ H Q) : PW X e t' := fun wh pins s σ H Q I q => h wh pins s σ H Q I (f _ _ _ q)
theorem PA.imp {X : Cx} {e : List Expr} {t t' : TA} (h : PA X e t) (f : ∀ σ H Q, t' σ H Q → t σ H Q) : PA X e t' := fun p pins s σ H Q I q => h p pins s σ H Q I (f _ _ _ q)
theorem PS.imp {X : Cx} {e : Stmt} {t t' : TS} (h : PS X e t) (f : ∀ D σ H, t' D σ H → t D σ H) : PS X e t' := fun pins s σ H Q I q => h pins s σ H Q I (f _ _ _ q)
theorem PSs.imp {X : Cx} {e : List Stmt} {t t' : TS} (h : PSs X e t) (f : ∀ D σ H, t' D σ H → t D σ H) : PSs X e t' := fun pins s σ H Q I q => h pins s σ H Q I (f _ _ _ q)
end Mir

set_option Elab.async false
set_option linter.all false
set_option maxRecDepth 100000
set_option maxHeartbeats 4000000
namespace Mir
open PySem PySem.Spec L2
variable {X : Cx} {a b c e : Expr} {pos : Pos} {ma mb mc : mE}

/-! ### names, constants -/
def mVar (i : Nat) : mE := fun δ M => match δ[i]? with
  | some (some d) => some (d, M)
  | _ => none
theorem mVar_some {i : Nat} {δ : DSt} {M M' : Mem} {d : D} (h : mVar i δ M = some (d, M')) : δ[i]? = some (some d) ∧ M' = M := by
  unfold mVar at h
  split at h
  · rename_i d' e; cases h; exact ⟨e, rfl⟩
  · cases h
theorem me_of_var {i : Nat} (h : PE X e (tVar i)) : PE X e (tM X.K (mVar i)) := PE.imp h fun σ H Q ⟨ι, δ, M, d, M', hs, hm, he, k⟩ => by
  obtain ⟨e1, rfl⟩ := mVar_some he
  obtain ⟨v, ev, r⟩ := hs.2 _ _ e1
  exact ⟨v, ev, k ι H v .refl hm r⟩
def mC (d : D) : mE := fun _ M => some (d, M)
theorem me_of_C {v : V} {d : D} (r : ∀ ι H, RelD X.K ι H d v) (h : PE X e (tC v)) : PE X e (tM X.K (mC d)) := PE.imp h fun σ H Q ⟨ι, δ, M, d', M', hs, hm, he, k⟩ => by
  cases he
  exact k ι H v .refl hm (r ι H)
theorem me_int {i : Int} {j} : PE X (.Constant (.int i) j pos) (tM X.K (mC (.int i))) := me_of_C (fun _ _ => .int i) pe_int
theorem me_bl {i : Bool} {j} : PE X (.Constant (.bool i) j pos) (tM X.K (mC (.bl i))) := me_of_C (fun _ _ => .bl i) pe_bl
theorem me_non {j} : PE X (.Constant .none j pos) (tM X.K (mC .non)) := me_of_C (fun _ _ => .non) pe_non
/-! ### two-place operations -/
def mBin (f : D → D → Mem → Option (D × Mem)) (ma mb : mE) : mE := fun δ M => (ma δ M).bind fun r => (mb δ r.2).bind fun q => f r.1 q.1 q.2
theorem mBin_some {f : D → D → Mem → Option (D × Mem)} {δ : DSt} {M M' : Mem} {d : D} (h : mBin f ma mb δ M = some (d, M')) :
    ∃ x M1 y M2, ma δ M = some (x, M1) ∧ mb δ M1 = some (y, M2) ∧ f x y M2 = some (d, M') := by
  unfold mBin at h
  cases e1 : ma δ M with
  | none => rw [e1] at h; cases h
  | some r =>
    rw [e1] at h
    have h : ((mb δ r.2).bind fun q => f r.1 q.1 q.2) = some (d, M') := h
    cases e2 : mb δ r.2 with
    | none => rw [e2] at h; cases h
    | some q => rw [e2] at h; exact ⟨r.1, r.2, q.1, q.2, rfl, e2, h⟩
/-- what is wanted of a value that comes -/
abbrev Got (K : PySem.W.Frag) (ι : List Addr) (H : Hp) (M' : Mem) (d : D) (Q : VK) : Prop := ∀ ι' H' v, Le K ι H ι' H' → RelM K ι' H' M' → RelD K ι' H' d v → Q v H'
def OpM (K : PySem.W.Frag) (r : R2) (f : D → D → Mem → Option (D × Mem)) : Prop :=
  ∀ ι H M x y vx vy d M' Q, RelM K ι H M → RelD K ι H x vx → RelD K ι H y vy → f x y M = some (d, M') → Got K ι H M' d Q → r vx vy H Q
theorem op_imp {r : R2} {f : D → D → Mem → Option (D × Mem)} (ho : OpM X.K r f) {σ H Q} (h : tM X.K (mBin f ma mb) σ H Q) : tOp r (tM X.K ma) (tM X.K mb) σ H Q := by
  obtain ⟨ι, δ, M, d, M', hs, hm, he, k⟩ := h
  obtain ⟨x, M1, y, M2, e1, e2, e3⟩ := mBin_some he
  refine ⟨ι, δ, M, x, M1, hs, hm, e1, fun ι1 H1 vx l1 m1 r1 => ⟨ι1, δ, M1, y, M2, hs.mono l1, m1, e2, fun ι2 H2 vy l2 m2 r2 => ?_⟩⟩
  exact ho ι2 H2 M2 x y vx vy d M' Q m2 (r1.mono l2) r2 e3 fun ι3 H3 v l3 m3 r3 => k ι3 H3 v ((l1.trans l2).trans l3) m3 r3
theorem me_bin {op : Operator} {r : R2} {f : D → D → Mem → Option (D × Mem)} (ho : OpR X (binaryOp op) r) (hf : OpM X.K r f) (ha : PE X a (tM X.K ma)) (hb : PE X b (tM X.K mb)) :
    PE X (.BinOp a op b pos) (tM X.K (mBin f ma mb)) := PE.imp (pe_op ho ha hb) fun _ _ _ h => op_imp hf h
theorem me_cmp {op : CmpOp} {r : R2} {f : D → D → Mem → Option (D × Mem)} (ho : OpR X (compareOp op) r) (hf : OpM X.K r f) (ha : PE X a (tM X.K ma)) (hb : PE X b (tM X.K mb)) (hm : behindInMarks op b = false) :
    PE X (.Compare a [op] [b] pos) (tM X.K (mBin f ma mb)) := PE.imp (pe_cmpR ho ha hb hm) fun _ _ _ h => op_imp hf h
/-- a test by an expression that gives a bool -/
def mB (m : mE) : mT := fun δ M => match m δ M with
  | some (.bl b, M') => some (b, M')
  | _ => none
theorem mB_some {m : mE} {δ : DSt} {M M' : Mem} {b : Bool} (h : mB m δ M = some (b, M')) : m δ M = some (.bl b, M') := by
  unfold mB at h
  split at h
  · rename_i e; cases h; exact e
  · cases h
theorem mt_cmp {op : CmpOp} {r : R2} {f : D → D → Mem → Option (D × Mem)} (ho : OpR X (compareOp op) r) (hf : OpM X.K r f) (ha : PE X a (tM X.K ma)) (hb : PE X b (tM X.K mb)) (hm : behindInMarks op b = false) :
    PT X (.Compare a [op] [b] pos) (tMT X.K (mB (mBin f ma mb))) := PT.imp (pt_cmpR ho ha hb hm) fun σ H Q ⟨ι, δ, M, d, M', hs, hm, he, k⟩ => by
  refine op_imp hf ⟨ι, δ, M, .bl d, M', hs, hm, mB_some he, fun ι' H' v l m r => ?_⟩
  cases r
  exact ⟨d, rfl, k ι' H' l m⟩
theorem OpR.or {f : Value → Value → Sem Value} {r r' : R2} (h : OpR X f r) (h' : OpR X f r') : OpR X f (fun x y H Q => r x y H Q ∨ r' x y H Q) := by
  intro pins s σ H x y v u Q I rx ry q
  rcases q with q | q
  · exact h pins s σ H x y v u Q I rx ry q
  · exact h' pins s σ H x y v u Q I rx ry q

/-! ### new tuples, new lists, by numbers -/
theorem got_tup {K : PySem.W.Frag} {ι : List Addr} {H : Hp} {M : Mem} {xs : List D} {vs : List V} {Q : VK} (hm : RelM K ι H M) (r : RelDs K ι H xs vs) (k : Got K ι H M (.tup xs) Q) : ∀ p, H p = none → Q (.ref p) (upd H p (.tup vs)) := fun p hp =>
  k ι _ _ (le_new0 hp) (hm.new0 hp) (.tup (.of upd_same) (r.mono (le_new0 hp).lo))
theorem got_lst {K : PySem.W.Frag} {ι : List Addr} {H : Hp} {M : Mem} {xs : List D} {vs : List V} {Q : VK} (hm : RelM K ι H M) (r : RelDs K ι H xs vs) (k : Got K ι H (M ++ [.lst xs]) (.obj M.length) Q) : ∀ p, H p = none → Q (.ref p) (upd H p (.lst vs)) := fun p hp => by
  refine k (ι ++ [p]) _ _ (le_new hp) (hm.new hp ⟨vs, upd_same, r.mono (le_new hp).lo⟩) (.obj ?_)
  rw [← hm.len]
  simp
/-- a list of the memory is read -/
def asList (M : Mem) : D → Option (List D)
  | .obj i => match M[i]? with
    | some (.lst xs) => some xs
    | _ => none
  | .rol xs => some xs
  | _ => none
theorem asList_rel {K : PySem.W.Frag} {ι : List Addr} {H : Hp} {M : Mem} {d : D} {xs : List D} {v : V} (hm : RelM K ι H M) (h : asList M d = some xs) (r : RelD K ι H d v) : ∃ p vs, v = .ref p ∧ SqL K H p vs ∧ RelDs K ι H xs vs := by
  cases d with
  | obj i =>
    cases r with
    | obj hi =>
      simp only [asList] at h
      split at h
      · rename_i ys e; cases h
        obtain ⟨p, hp, vs, e1, e2⟩ := hm.at e
        rw [hi] at hp; cases hp
        exact ⟨_, vs, rfl, .of e1, e2⟩
      · cases h
  | rol ys =>
    cases h
    cases r with
    | rol h1 r1 => exact ⟨_, _, rfl, h1.sq, r1⟩
  | _ => cases h
/-- a list of the memory that may be changed -/
def asLst (M : Mem) : D → Option (Nat × List D)
  | .obj i => match M[i]? with
    | some (.lst xs) => some (i, xs)
    | _ => none
  | _ => none
theorem asLst_rel {K : PySem.W.Frag} {ι : List Addr} {H : Hp} {M : Mem} {d : D} {i : Nat} {xs : List D} {v : V} (hm : RelM K ι H M) (h : asLst M d = some (i, xs)) (r : RelD K ι H d v) :
    d = .obj i ∧ M[i]? = some (.lst xs) ∧ ∃ p vs, v = .ref p ∧ ι[i]? = some p ∧ H p = some (.lst vs) ∧ RelDs K ι H xs vs := by
  cases d with
  | obj j =>
    cases r with
    | obj hi =>
      simp only [asLst] at h
      split at h
      · rename_i ys e; cases h
        obtain ⟨p, hp, vs, e1, e2⟩ := hm.at e
        rw [hi] at hp; cases hp
        exact ⟨rfl, e, _, vs, rfl, hi, e1, e2⟩
      · cases h
  | _ => cases h
theorem got_set {K : PySem.W.Frag} {ι : List Addr} {H : Hp} {M : Mem} {i : Nat} {p : Addr} {xs ys : List D} {vs ws : List V} {d : D} {v : V} {Q : VK} (hm : RelM K ι H M) (hi : ι[i]? = some p) (hp : H p = some (.lst vs)) (r : RelDs K ι H ys ws)
    (rd : RelD K ι H d v) (k : Got K ι H (M.set i (.lst ys)) d Q) : Q v (upd H p (.lst ws)) :=
  k ι _ _ (le_upd (List.mem_of_getElem? hi) hp trivial) (hm.set hi hp trivial ⟨ws, upd_same, r.mono (le_upd (List.mem_of_getElem? hi) hp trivial).lo⟩) (rd.mono (le_upd (List.mem_of_getElem? hi) hp trivial).lo)
/-- a dict of the memory that is read -/
def asDict (M : Mem) : D → Option (List (Key × D))
  | .obj i => match M[i]? with
    | some (.dic kvs) => some kvs
    | some (.dro kvs) => some kvs
    | _ => none
  | _ => none
theorem asDict_rel {K : PySem.W.Frag} {ι : List Addr} {H : Hp} {M : Mem} {d : D} {xs : List (Key × D)} {v : V} (hm : RelM K ι H M) (h : asDict M d = some xs) (r : RelD K ι H d v) :
    ∃ p vs, v = .ref p ∧ Rd H p (.dK vs) ∧ RelKs K ι H xs vs := by
  cases d with
  | obj j =>
    cases r with
    | obj hi =>
      simp only [asDict] at h
      split at h
      · rename_i ys e; cases h
        obtain ⟨p, hp, vs, e1, e2⟩ := hm.at e
        rw [hi] at hp; cases hp
        exact ⟨_, vs, rfl, .of e1, e2⟩
      · rename_i ys e; cases h
        obtain ⟨p, hp, o, vs, e1, e2⟩ := hm.at e
        rw [hi] at hp; cases hp
        exact ⟨_, vs, rfl, .inr ⟨o, e1⟩, e2⟩
      · cases h
  | _ => cases h
/-- a dict of the memory -/
def asDic (M : Mem) : D → Option (Nat × List (Key × D))
  | .obj i => match M[i]? with
    | some (.dic kvs) => some (i, kvs)
    | _ => none
  | _ => none
theorem asDic_rel {K : PySem.W.Frag} {ι : List Addr} {H : Hp} {M : Mem} {d : D} {i : Nat} {xs : List (Key × D)} {v : V} (hm : RelM K ι H M) (h : asDic M d = some (i, xs)) (r : RelD K ι H d v) :
    d = .obj i ∧ M[i]? = some (.dic xs) ∧ ∃ p vs, v = .ref p ∧ ι[i]? = some p ∧ H p = some (.dK vs) ∧ RelKs K ι H xs vs := by
  cases d with
  | obj j =>
    cases r with
    | obj hi =>
      simp only [asDic] at h
      split at h
      · rename_i ys e; cases h
        obtain ⟨p, hp, vs, e1, e2⟩ := hm.at e
        rw [hi] at hp; cases hp
        exact ⟨rfl, e, _, vs, rfl, hi, e1, e2⟩
      · cases h
  | _ => cases h
def keyD : D → Option Key
  | .int i => some (.inl i)
  | .str x => some (.inr x)
  | _ => none
theorem keyD_rel {K : PySem.W.Frag} {ι : List Addr} {H : Hp} {d : D} {k : Key} {v : V} (h : keyD d = some k) (r : RelD K ι H d v) : v = kV k := by
  cases r <;> cases h <;> rfl
theorem RelKs.val {K : PySem.W.Frag} {ι : List Addr} {H : Hp} : ∀ {kvs : List (Key × D)} {kvs' : List (Key × V)}, RelKs K ι H kvs kvs' → ∀ k : Key,
    (∀ d, (kvs.find? (fun kv => decide (kv.1 = k))).map (·.2) = some d → ∃ v, valV kvs' k = some v ∧ RelD K ι H d v) ∧ ((kvs.find? (fun kv => decide (kv.1 = k))).map (·.2) = none → valV kvs' k = none)
  | [], [], _, k => ⟨fun d e => by simp at e, fun _ => rfl⟩
  | [], _ :: _, h, k => by have := h.1; simp at this
  | _ :: _, [], h, k => by have := h.1; simp at this
  | (k1, d1) :: r, (k2, v2) :: r', h, k => by
    obtain ⟨e, q⟩ := h
    simp only [List.map_cons] at e q
    cases q with
    | cons q1 q2 =>
      obtain ⟨rfl, e'⟩ := List.cons.inj e
      have ih := RelKs.val (kvs := r) (kvs' := r') ⟨e', q2⟩ k
      unfold valV at ih ⊢
      by_cases hk : k1 = k
      · subst hk
        simp only [List.find?_cons, decide_true]
        exact ⟨fun d e => by cases e; exact ⟨v2, rfl, q1⟩, fun e => by cases e⟩
      · simp only [List.find?_cons, hk, decide_false]
        exact ih
/-- a dict's value at a key -/
def valD (kvs : List (Key × D)) (k : Key) : Option D := (kvs.find? (fun kv => decide (kv.1 = k))).map (·.2)
def putD (kvs : List (Key × D)) (k : Key) (v : D) : List (Key × D) :=
  if (kvs.any fun kv => decide (kv.fst = k)) = true then kvs.map (fun kv => if kv.fst = k then (kv.fst, v) else kv) else kvs ++ [(k, v)]
theorem RelKs.put {K : PySem.W.Frag} {ι : List Addr} {H : Hp} {kvs : List (Key × D)} {kvs' : List (Key × V)} (h : RelKs K ι H kvs kvs') (k : Key) {d : D} {v : V} (r : RelD K ι H d v) : RelKs K ι H (putD kvs k d) (putK kvs' k v) := by
  have hany : (kvs.any fun kv => decide (kv.fst = k)) = (kvs'.any fun kv => decide (kv.fst = k)) := by
    have : ∀ (l : List (Key × D)) (l' : List (Key × V)), l.map (·.1) = l'.map (·.1) → (l.any fun kv => decide (kv.fst = k)) = (l'.any fun kv => decide (kv.fst = k)) := by
      intro l
      induction l with
      | nil => intro l' e; cases l' with | nil => rfl | cons _ _ => simp at e
      | cons x r ih => intro l' e; cases l' with
        | nil => simp at e
        | cons y r' => simp only [List.map_cons, List.cons.injEq] at e; simp only [List.any_cons, e.1, ih r' e.2]
    exact this _ _ h.1
  have hmap : ∀ (l : List (Key × D)) (l' : List (Key × V)), RelKs K ι H l l' → RelKs K ι H (l.map (fun kv => if kv.fst = k then (kv.fst, d) else kv)) (l'.map (fun kv => if kv.fst = k then (kv.fst, v) else kv)) := by
    intro l
    induction l with
    | nil => intro l' e; cases l' with | nil => exact e | cons _ _ => have := e.1; simp at this
    | cons x rr ih => intro l' e; cases l' with
      | nil => have := e.1; simp at this
      | cons y r' =>
        obtain ⟨e1, e2⟩ := e
        simp only [List.map_cons] at e1 e2
        obtain ⟨ek, e1⟩ := List.cons.inj e1
        cases e2 with
        | cons q1 q2 =>
          obtain ⟨i1, i2⟩ := ih r' ⟨e1, q2⟩
          refine ⟨?_, ?_⟩
          · simp only [List.map_cons]
            rw [i1, ek]
            split <;> simp [ek]
          · simp only [List.map_cons]
            rw [ek]
            split
            · exact .cons r i2
            · exact .cons q1 i2
  unfold putD putK
  rw [hany]
  split
  · exact hmap _ _ h
  · refine ⟨by simp [h.1], ?_⟩
    simp only [List.map_append, List.map_cons, List.map_nil]
    exact h.2.append (.cons r .nil)
theorem RelKs.length {K : PySem.W.Frag} {ι : List Addr} {H : Hp} {kvs : List (Key × D)} {kvs' : List (Key × V)} (h : RelKs K ι H kvs kvs') : kvs.length = kvs'.length := by
  have := h.2.length
  simpa using this
end Mir

set_option Elab.async false
set_option linter.all false
set_option maxRecDepth 100000
set_option maxHeartbeats 4000000
namespace Mir
open PySem PySem.Spec L2
variable {X : Cx} {a b c e : Expr} {pos : Pos} {ma mb mc : mE} {K : PySem.W.Frag}

/-! ### t + u, any tuples -/
def rCatA (K : PySem.W.Frag) : R2 := fun x y H Q => ∃ a b xs ys, x = .ref a ∧ y = .ref b ∧ SqT K H a xs ∧ SqT K H b ys ∧ xs.length + ys.length ≤ sizeLine ∧
  (xs = [] → Q (.ref b) H) ∧ (ys = [] → Q (.ref a) H) ∧ ∀ p, H p = none → Q (.ref p) (upd H p (.tup (xs ++ ys)))
theorem op_catA : OpR X (binaryOp .Add) (rCatA X.K) := by
  intro pins s σ H x y v u Q I rx ry h
  obtain ⟨a, b, xs, ys, rfl, rfl, ha, hb, hz, q0, q1, q2⟩ := h
  cases rx
  cases ry
  by_cases hx : xs = []
  · obtain ⟨its, r1, p1, _⟩ := I.tuple ha
    obtain ⟨its2, r2, p2, _⟩ := I.tuple hb
    obtain ⟨⟨cls, dd, data, sl⟩, ho, hc, n, hd⟩ := id p1
    obtain ⟨⟨cls2, dd2, data2, sl2⟩, ho2, hc2, n2, hd2⟩ := id p2
    simp only at hc hd hc2 hd2
    subst hc hd hc2 hd2
    have hv : its = [] := r1.nil_iff.mpr hx
    exact PySem.concat_meets ⟨_, ho, rfl⟩ ⟨_, ho2, rfl⟩ noFill_tuple_add seq_tuple_add PySem.F.slot_tuple_add PySem.F.entry_tuple_add (PySem.F.args_tuple_add_2 _ _)
      (PyProof.Rows.tuple_addW0 a b its.toArray its2.toArray n n2 dd dd2 sl sl2 (by simp [hv])) ⟨ho, ho2, ⟨.ref b, H, I, rfl, q0 hx⟩⟩
  · exact op_catT pins s σ H (.ref a) (.ref b) _ _ Q I rfl rfl ⟨a, b, xs, ys, rfl, rfl, ha, hb, hx, hz, q1, fun _ => q2⟩

/-! ### + -/
def addD (x y : D) (M : Mem) : Option (D × Mem) := match x, y with
  | .int i, .int j => some (.int (i + j), M)
  | .str a, .str b => if a.length + b.length ≤ sizeLine then some (.str (a ++ b), M) else none
  | .tup xs, .tup ys => if xs.length + ys.length ≤ sizeLine then some (.tup (xs ++ ys), M) else none
  | .obj i, .obj j => match asLst M (.obj i), asLst M (.obj j) with
    | some (_, xs), some (_, ys) => if xs.length + ys.length ≤ sizeLine then some (.obj M.length, M ++ [.lst (xs ++ ys)]) else none
    | _, _ => none
  | _, _ => none
def rAdd (K : PySem.W.Frag) : R2 := fun x y H Q => (rI0 fun i j => .int (i + j)) x y H Q ∨ (∃ i j, x = .str i ∧ y = .str j ∧ i.length + j.length ≤ sizeLine ∧ Q (.str (i ++ j)) H) ∨ rCatA K x y H Q ∨ rCat x y H Q
theorem op_addA : OpR X (binaryOp .Add) (rAdd X.K) := op_add.or (op_add_str.or (op_catA.or op_cat))
theorem add_m : OpM K (rAdd K) addD := by
  intro ι H M x y vx vy d M' Q hm rx ry hf k
  unfold addD at hf
  split at hf
  · rename_i i j; cases hf; cases rx; cases ry
    exact .inl ⟨i, j, rfl, rfl, k ι H _ .refl hm (.int _)⟩
  · rename_i s t; split at hf
    · cases hf; cases rx; cases ry
      exact .inr (.inl ⟨s, t, rfl, rfl, by assumption, k ι H _ .refl hm (.str _)⟩)
    · cases hf
  · rename_i xs ys; split at hf
    · rename_i hz; cases hf
      cases rx with
      | tup h1 r1 =>
        cases ry with
        | tup h2 r2 =>
          refine .inr (.inr (.inl ⟨_, _, _, _, rfl, rfl, h1, h2, by rw [← r1.length, ← r2.length]; exact hz, fun z => ?_, fun z => ?_, got_tup hm (r1.append r2) k⟩))
          · subst z; cases r1; exact k ι H _ .refl hm (.tup h2 r2)
          · subst z; cases r2; rw [List.append_nil] at k; exact k ι H _ .refl hm (.tup h1 r1)
    · cases hf
  · rename_i i j
    split at hf
    · rename_i i1 xs i2 ys e1 e2; split at hf
      · rename_i hz; cases hf
        obtain ⟨_, _, p1, v1, rfl, _, h1, r1⟩ := asLst_rel hm e1 rx
        obtain ⟨_, _, p2, v2, rfl, _, h2, r2⟩ := asLst_rel hm e2 ry
        exact .inr (.inr (.inr ⟨p1, p2, v1, v2, rfl, rfl, h1, h2, by rw [← r1.length, ← r2.length]; exact hz, got_lst hm (r1.append r2) k⟩))
      · cases hf
    · cases hf
  · cases hf
theorem me_add (ha : PE X a (tM X.K ma)) (hb : PE X b (tM X.K mb)) : PE X (.BinOp a .Add b pos) (tM X.K (mBin addD ma mb)) := me_bin op_addA add_m ha hb

/-! ### ints -/
def intD (C : Int → Int → Bool) (g : Int → Int → D) (x y : D) (M : Mem) : Option (D × Mem) := match x, y with
  | .int i, .int j => if C i j = true then some (g i j, M) else none
  | _, _ => none
theorem int_m {C : Int → Int → Bool} {P : Int → Int → Prop} {g : Int → Int → D} {h : Int → Int → V} (hC : ∀ i j, C i j = true → P i j) (hg : ∀ ι H i j, RelD K ι H (g i j) (h i j)) : OpM K (rI P h) (intD C g) := by
  intro ι H M x y vx vy d M' Q hm rx ry hf k
  unfold intD at hf
  split at hf
  · split at hf
    · rename_i i j hc; cases hf; cases rx; cases ry
      exact ⟨i, j, rfl, rfl, hC _ _ hc, k ι H _ .refl hm (hg _ _ _ _)⟩
    · cases hf
  · cases hf
def yesC : Int → Int → Bool := fun _ _ => true
theorem int0_m {g : Int → Int → D} {h : Int → Int → V} (hg : ∀ ι H i j, RelD K ι H (g i j) (h i j)) : OpM K (rI0 h) (intD yesC g) := by
  intro ι H M x y vx vy d M' Q hm rx ry hf k
  obtain ⟨i, j, e1, e2, _, q⟩ := int_m (P := fun _ _ => True) (C := yesC) (fun _ _ _ => trivial) hg ι H M x y vx vy d M' Q hm rx ry hf k
  exact ⟨i, j, e1, e2, q⟩
def subD := intD yesC fun i j => .int (i - j)
theorem me_sub (ha : PE X a (tM X.K ma)) (hb : PE X b (tM X.K mb)) : PE X (.BinOp a .Sub b pos) (tM X.K (mBin subD ma mb)) := me_bin op_sub (int0_m fun _ _ _ _ => .int _) ha hb
def mulOk (a b : Int) : Bool := !(decide (Builtin.Int.intBits a > shortFactorBits) && decide (Builtin.Int.intBits b > shortFactorBits) && Builtin.Int.intTooBig (↑(Builtin.Int.intBits a) + ↑(Builtin.Int.intBits b)))
theorem op_mulA : OpR X (binaryOp .Mult) (rI IntMulOk fun i j => .int (i * j)) := opI fun _ _ _ _ _ _ _ hc q => PyProof.Rows.mul_int q hc
def mulD (x y : D) (M : Mem) : Option (D × Mem) := match x, y with
  | .int i, .int j => if mulOk i j = true then some (.int (i * j), M) else none
  | .obj i, .int k => match asLst M (.obj i) with
    | some (_, xs) => if -(2 ^ 63) ≤ k ∧ k < 2 ^ 63 ∧ xs.length * k.toNat ≤ sizeLine then some (.obj M.length, M ++ [.lst (List.replicate k.toNat xs).flatten]) else none
    | none => none
  | _, _ => none
theorem RelDs.rep {ι : List Addr} {H : Hp} {xs : List D} {us : List V} (h : RelDs K ι H xs us) : ∀ k : Nat, RelDs K ι H (List.replicate k xs).flatten (List.replicate k us).flatten
  | 0 => .nil
  | k + 1 => by
    rw [List.replicate_succ, List.replicate_succ, List.flatten_cons, List.flatten_cons]
    exact h.append (RelDs.rep h k)
theorem mul_m : OpM K (fun x y H Q => (rI IntMulOk fun i j => .int (i * j)) x y H Q ∨ rRep x y H Q) mulD := by
  intro ι H M x y vx vy d M' Q hm rx ry hf k
  unfold mulD at hf
  split at hf
  · split at hf
    · rename_i i j hc; cases hf; cases rx; cases ry
      refine .inl ⟨i, j, rfl, rfl, ?_, k ι H _ .refl hm (.int _)⟩
      unfold IntMulOk
      unfold mulOk at hc
      intro z
      rw [z] at hc
      cases hc
    · cases hf
  · rename_i i k'
    split at hf
    · rename_i i1 xs e1; split at hf
      · rename_i hz; cases hf
        obtain ⟨_, _, p1, v1, rfl, _, h1, r1⟩ := asLst_rel hm e1 rx
        cases ry
        exact .inr ⟨p1, k', v1, rfl, rfl, h1, hz.1, hz.2.1, by rw [← r1.length]; exact hz.2.2, got_lst hm (r1.rep _) k⟩
      · cases hf
    · cases hf
  · cases hf
theorem me_mul (ha : PE X a (tM X.K ma)) (hb : PE X b (tM X.K mb)) : PE X (.BinOp a .Mult b pos) (tM X.K (mBin mulD ma mb)) := me_bin (op_mulA.or op_rep) mul_m ha hb
theorem op_fdivA : OpR X (binaryOp .FloorDiv) (rI (fun i j => j ≠ 0 ∧ Builtin.divisionGoesByPylong i j = false) fun i j => .int (i.fdiv j)) := opI fun _ _ _ _ _ _ _ hc q => PyProof.Rows.floordiv_int hc.1 q (.inl hc.2)
def fdivOk (i j : Int) : Bool := decide (j ≠ 0) && !Builtin.divisionGoesByPylong i j
def fdivD := intD fdivOk fun i j => .int (i.fdiv j)
theorem me_fdiv (ha : PE X a (tM X.K ma)) (hb : PE X b (tM X.K mb)) : PE X (.BinOp a .FloorDiv b pos) (tM X.K (mBin fdivD ma mb)) :=
  me_bin op_fdivA (int_m (fun i j h => by unfold fdivOk at h; simpa using h) fun _ _ _ _ => .int _) ha hb
def modOk (i j : Int) : Bool := decide (j ≠ 0)
def modD := intD modOk fun i j => .int (i.fmod j)
theorem me_mod (ha : PE X a (tM X.K ma)) (hb : PE X b (tM X.K mb)) : PE X (.BinOp a .Mod b pos) (tM X.K (mBin modD ma mb)) :=
  me_bin op_modN (int_m (fun i j h => by unfold modOk at h; simpa using h) fun _ _ _ _ => .int _) ha hb
def powOk (i j : Int) : Bool := decide (0 ≤ j) && decide (j ≤ 1000000) && decide (i.natAbs < 2 ^ 64)
def powD := intD powOk fun i j => .int (i ^ j.toNat)
theorem me_pow (ha : PE X a (tM X.K ma)) (hb : PE X b (tM X.K mb)) : PE X (.BinOp a .Pow b pos) (tM X.K (mBin powD ma mb)) :=
  me_bin op_pow (int_m (fun i j h => by unfold powOk at h; simp only [Bool.and_eq_true, decide_eq_true_eq] at h; exact ⟨h.1.1, h.1.2, h.2⟩) fun _ _ _ _ => .int _) ha hb
def mNeg (m : mE) : mE := fun δ M => match m δ M with
  | some (.int i, M') => some (.int (-i), M')
  | _ => none
/-! ### == and != -/
def pd (M : Mem) : Nat → D → Option PyData
  | _, .non => some .none
  | _, .bl b => some (.bool b)
  | _, .int i => some (.int i)
  | _, .str x => some (.str x)
  | n + 1, .tup xs => (xs.mapM (pd M n)).map .tuple
  | n + 1, .obj i => (asList M (.obj i)).bind fun xs => (xs.mapM (pd M n)).map .list
  | n + 1, .rol xs => (xs.mapM (pd M n)).map .list
  | _, .ty _ => none
  | 0, _ => none
theorem mapM_dp {ι : List Addr} {H : Hp} {f : D → Option PyData} : ∀ {xs : List D} {vs : List V} {ds : List PyData}, (∀ x ∈ xs, ∀ v p, RelD K ι H x v → f x = some p → Dp K H v p) → RelDs K ι H xs vs → xs.mapM f = some ds → DpAll K H vs ds
  | [], _, ds, _, r, e => by cases r; simp at e; subst e; exact .nil
  | x :: xs, _, ds, hf, r, e => by
    cases r with
    | cons r1 r2 =>
      rw [List.mapM_cons] at e
      cases e1 : f x with
      | none => rw [e1] at e; cases e
      | some p =>
        rw [e1] at e
        cases e2 : xs.mapM f with
        | none => rw [e2] at e; cases e
        | some q =>
          rw [e2] at e
          cases e
          exact .cons (hf x List.mem_cons_self _ _ r1 e1) (mapM_dp (fun y hy => hf y (List.mem_cons_of_mem _ hy)) r2 e2)
theorem pd_dp {ι : List Addr} {H : Hp} {M : Mem} (hm : RelM K ι H M) : ∀ (n : Nat) (d : D) (v : V) (p : PyData), RelD K ι H d v → pd M n d = some p → Dp K H v p := by
  intro n
  induction n with
  | zero =>
    intro d v p r e
    cases r <;> simp [pd] at e <;> subst e
    · exact .non
    · exact .bl _
    · exact .int _
    · exact .str _
  | succ n ih =>
    intro d v p r e
    cases r with
    | non => simp [pd] at e; subst e; exact .non
    | bl b => simp [pd] at e; subst e; exact .bl _
    | int i => simp [pd] at e; subst e; exact .int _
    | str x => simp [pd] at e; subst e; exact .str _
    | @tup a xs vs h1 r1 =>
      simp only [pd] at e
      cases e1 : xs.mapM (pd M n) with
      | none => rw [e1] at e; cases e
      | some q => rw [e1] at e; cases e; exact .tup h1 (mapM_dp (fun x _ v p r e => ih x v p r e) r1 e1)
    | ty n => simp [pd] at e
    | @rol a xs vs h1 r1 =>
      simp only [pd] at e
      cases e1 : xs.mapM (pd M n) with
      | none => rw [e1] at e; cases e
      | some q => rw [e1] at e; cases e; exact .lst h1.sq (mapM_dp (fun x _ v p r e => ih x v p r e) r1 e1)
    | @obj i a hi =>
      simp only [pd] at e
      cases e0 : asList M (.obj i) with
      | none => rw [e0] at e; cases e
      | some xs =>
        rw [e0] at e
        have e : (xs.mapM (pd M n)).map PyData.list = some p := e
        cases e1 : xs.mapM (pd M n) with
        | none => rw [e1] at e; cases e
        | some q =>
          rw [e1] at e; cases e
          obtain ⟨p, vs, ev, h1, r1⟩ := asList_rel hm e0 (.obj hi)
          cases ev
          exact .lst h1 (mapM_dp (fun x _ v p r e => ih x v p r e) r1 e1)
/-- the data of both, if they can be compared -/
def eqB (M : Mem) (x y : D) : Option Bool := (pd M 64 x).bind fun p => (pd M 64 y).bind fun q => if SeqAt.shaped p = true ∧ SeqAt.shaped q = true then some (PyData.eqv p q) else none
theorem eqB_some {M : Mem} {x y : D} {b : Bool} (h : eqB M x y = some b) : ∃ p q, pd M 64 x = some p ∧ pd M 64 y = some q ∧ SeqAt.shaped p = true ∧ SeqAt.shaped q = true ∧ b = PyData.eqv p q := by
  unfold eqB at h
  cases e1 : pd M 64 x with
  | none => rw [e1] at h; cases h
  | some p =>
    rw [e1] at h
    cases e2 : pd M 64 y with
    | none => rw [e2] at h; cases h
    | some q =>
      rw [e2] at h
      have h : (if SeqAt.shaped p = true ∧ SeqAt.shaped q = true then some (PyData.eqv p q) else none) = some b := h
      split at h
      · rename_i hs; cases h; exact ⟨p, q, rfl, rfl, hs.1, hs.2, rfl⟩
      · cases h
def eqD (x y : D) (M : Mem) : Option (D × Mem) := (eqB M x y).map fun b => (.bl b, M)
def neD (x y : D) (M : Mem) : Option (D × Mem) := (eqB M x y).map fun b => (.bl (!b), M)
theorem eq_m : OpM K (rEqD K) eqD := by
  intro ι H M x y vx vy d M' Q hm rx ry hf k
  unfold eqD at hf
  cases e : eqB M x y with
  | none => rw [e] at hf; cases hf
  | some b =>
    rw [e] at hf; cases hf
    obtain ⟨p, q, e1, e2, s1, s2, rfl⟩ := eqB_some e
    exact ⟨p, q, pd_dp hm _ _ _ _ rx e1, pd_dp hm _ _ _ _ ry e2, s1, s2, k ι H _ .refl hm (.bl _)⟩
theorem ne_m : OpM K (rNeD K) neD := by
  intro ι H M x y vx vy d M' Q hm rx ry hf k
  unfold neD at hf
  cases e : eqB M x y with
  | none => rw [e] at hf; cases hf
  | some b =>
    rw [e] at hf; cases hf
    obtain ⟨p, q, e1, e2, s1, s2, rfl⟩ := eqB_some e
    exact ⟨p, q, pd_dp hm _ _ _ _ rx e1, pd_dp hm _ _ _ _ ry e2, s1, s2, k ι H _ .refl hm (.bl _)⟩
theorem me_eq (hu : X.A.units + 64 < cLine) (ha : PE X a (tM X.K ma)) (hb : PE X b (tM X.K mb)) : PE X (.Compare a [.Eq] [b] pos) (tM X.K (mBin eqD ma mb)) := me_cmp (op_eqD hu) eq_m ha hb (nomark _)
theorem mt_eq (hu : X.A.units + 64 < cLine) (ha : PE X a (tM X.K ma)) (hb : PE X b (tM X.K mb)) : PT X (.Compare a [.Eq] [b] pos) (tMT X.K (mB (mBin eqD ma mb))) := mt_cmp (op_eqD hu) eq_m ha hb (nomark _)
theorem me_ne (hu : X.A.units + 64 < cLine) (ha : PE X a (tM X.K ma)) (hb : PE X b (tM X.K mb)) : PE X (.Compare a [.NotEq] [b] pos) (tM X.K (mBin neD ma mb)) := me_cmp (op_neD hu) ne_m ha hb (nomark _)
theorem mt_ne (hu : X.A.units + 64 < cLine) (ha : PE X a (tM X.K ma)) (hb : PE X b (tM X.K mb)) : PT X (.Compare a [.NotEq] [b] pos) (tMT X.K (mB (mBin neD ma mb))) := mt_cmp (op_neD hu) ne_m ha hb (nomark _)

/-! ### <, <=, >, >= of ints and texts -/
def ordD (f : Int → Int → Bool) (g : Str → Str → Bool) (x y : D) (M : Mem) : Option (D × Mem) := match x, y with
  | .int i, .int j => some (.bl (f i j), M)
  | .str i, .str j => some (.bl (g i j), M)
  | _, _ => none
theorem ord_m {f : Int → Int → Bool} {g : Str → Str → Bool} : OpM K (fun x y H Q => (rI0 fun i j => .bl (f i j)) x y H Q ∨ (∃ i j, x = .str i ∧ y = .str j ∧ Q (.bl (g i j)) H)) (ordD f g) := by
  intro ι H M x y vx vy d M' Q hm rx ry hf k
  unfold ordD at hf
  split at hf
  · rename_i i j; cases hf; cases rx; cases ry; exact .inl ⟨i, j, rfl, rfl, k ι H _ .refl hm (.bl _)⟩
  · rename_i i j; cases hf; cases rx; cases ry; exact .inr ⟨i, j, rfl, rfl, k ι H _ .refl hm (.bl _)⟩
  · cases hf
def ltD := ordD (fun i j => decide (i < j)) (fun i j => decide (i.cps.toList < j.cps.toList))
def leD := ordD (fun i j => decide (i ≤ j)) (fun i j => !decide (j.cps.toList < i.cps.toList))
def gtD := ordD (fun i j => decide (j < i)) (fun i j => decide (j.cps.toList < i.cps.toList))
def geD := ordD (fun i j => decide (j ≤ i)) (fun i j => !decide (i.cps.toList < j.cps.toList))
theorem mt_lt (ha : PE X a (tM X.K ma)) (hb : PE X b (tM X.K mb)) : PT X (.Compare a [.Lt] [b] pos) (tMT X.K (mB (mBin ltD ma mb))) := mt_cmp (op_lt.or op_lt_str) ord_m ha hb (nomark _)
theorem me_gt (ha : PE X a (tM X.K ma)) (hb : PE X b (tM X.K mb)) : PE X (.Compare a [.Gt] [b] pos) (tM X.K (mBin gtD ma mb)) := me_cmp (op_gt.or op_gt_str) ord_m ha hb (nomark _)
theorem mt_gt (ha : PE X a (tM X.K ma)) (hb : PE X b (tM X.K mb)) : PT X (.Compare a [.Gt] [b] pos) (tMT X.K (mB (mBin gtD ma mb))) := mt_cmp (op_gt.or op_gt_str) ord_m ha hb (nomark _)
theorem mt_ge (ha : PE X a (tM X.K ma)) (hb : PE X b (tM X.K mb)) : PT X (.Compare a [.GtE] [b] pos) (tMT X.K (mB (mBin geD ma mb))) := mt_cmp (op_ge.or op_ge_str) ord_m ha hb (nomark _)
/-- is None, is not None -/
def isND (neg : Bool) (x y : D) (M : Mem) : Option (D × Mem) := match y with
  | .non => some (.bl (match x with | .non => !neg | _ => neg), M)
  | _ => none
theorem notN_m : OpM K (fun x y H Q => y = V.non ∧ Q (V.bl (!decide (x = V.non))) H) (isND true) := by
  intro ι H M x y vx vy d M' Q hm rx ry hf k
  unfold isND at hf
  split at hf
  · cases hf; cases ry
    refine ⟨rfl, k ι H _ .refl hm ?_⟩
    cases rx <;> exact .bl _
  · cases hf
theorem mt_isnot (ha : PE X a (tM X.K ma)) (hb : PE X b (tM X.K mb)) : PT X (.Compare a [.IsNot] [b] pos) (tMT X.K (mB (mBin (isND true) ma mb))) := mt_cmp op_notN notN_m ha hb (nomark _)
end Mir

set_option Elab.async false
set_option linter.all false
set_option maxRecDepth 100000
set_option maxHeartbeats 4000000
namespace Mir
open PySem PySem.Spec L2
variable {X : Cx} {a b c e : Expr} {es rest : List Expr} {pos : Pos} {ma mb mc me : mE} {K : PySem.W.Frag} {ta tb : mT} {mr : mA}

/-! ### truth -/
def truB (M : Mem) : D → Option Bool
  | .non => some false
  | .bl b => some b
  | .int i => some (i != 0)
  | .str x => if x.length ≤ sizeLine then some ((x.length : Int) != 0) else none
  | .tup xs => some (!xs.isEmpty)
  | .obj i => match M[i]? with
    | some (.lst xs) => some (!xs.isEmpty)
    | some (.dic xs) => some (!xs.isEmpty)
    | _ => none
  | .rol xs => some (!xs.isEmpty)
  | .ty _ => none
theorem RelDs.empty {ι : List Addr} {H : Hp} {xs : List D} {vs : List V} (r : RelDs K ι H xs vs) : xs.isEmpty = vs.isEmpty := by cases r <;> rfl
theorem tru_rel {ι : List Addr} {H : Hp} {M : Mem} {d : D} {v : V} {k : Bool} (hm : RelM K ι H M) (r : RelD K ι H d v) (h : truB M d = some k) : TruV K v H k := by
  cases r with
  | non => cases h; rfl
  | bl b => cases h; rfl
  | int i => cases h; rfl
  | str x =>
    simp only [truB] at h
    split at h
    · rename_i hz; cases h; exact ⟨hz, rfl⟩
    · cases h
  | tup h1 r1 => cases h; exact .inr (.inl ⟨_, h1, by rw [r1.empty]⟩)
  | @obj i a hi =>
    simp only [truB] at h
    split at h
    · rename_i xs e; cases h
      obtain ⟨p, hp, vs, e1, e2⟩ := hm.at e
      rw [hi] at hp; cases hp
      exact .inl ⟨vs, .of e1, by rw [e2.empty]⟩
    · rename_i xs e; cases h
      obtain ⟨p, hp, vs, e1, e2⟩ := hm.at e
      rw [hi] at hp; cases hp
      refine .inr (.inr ⟨vs, e1, ?_⟩)
      have := e2.length
      cases xs <;> cases vs <;> simp_all
    · cases h
  | rol h1 r1 => cases h; exact .inl ⟨_, h1.sq, by rw [r1.empty]⟩
  | ty n => cases h
def mTru (m : mE) : mT := fun δ M => (m δ M).bind fun r => (truB r.2 r.1).map fun b => (b, r.2)
theorem mt_truth (ha : PE X a (tM X.K ma)) (hw : ∀ whole : Sem Value, PySem.isTrue a X.env whole = (do let v ← whole; standAt a.pos; holding [v] (truthy v))) : PT X a (tMT X.K (mTru ma)) :=
  PT.imp (pt_truth ha hw) fun σ H Q ⟨ι, δ, M, d, M', hs, hm, he, k⟩ => by
    unfold mTru at he
    cases e1 : ma δ M with
    | none => rw [e1] at he; cases he
    | some r =>
      rw [e1] at he
      have he : (truB r.2 r.1).map (fun b => (b, r.2)) = some (d, M') := he
      cases e2 : truB r.2 r.1 with
      | none => rw [e2] at he; cases he
      | some k' =>
        rw [e2] at he; cases he
        exact ⟨ι, δ, M, r.1, r.2, hs, hm, e1, fun ι' H' v l m r => ⟨d, tru_rel m r e2, k ι' H' l m⟩⟩

/-! ### and, or, not, if: tests -/
def mAnd (ta tb : mT) : mT := fun δ M => (ta δ M).bind fun r => if r.1 = true then tb δ r.2 else some (false, r.2)
def mOr (ta tb : mT) : mT := fun δ M => (ta δ M).bind fun r => if r.1 = true then some (true, r.2) else tb δ r.2
def mNot (ta : mT) : mT := fun δ M => (ta δ M).map fun r => (!r.1, r.2)
theorem mw_or1 (ha : PT X a (tMT X.K ta)) : PW X (.BoolOp .Or [a] pos) (tMT X.K ta) := pw_or1 ha
theorem mw_or (ha : PT X a (tMT X.K ta)) (hb : PW X (.BoolOp .Or (b :: rest) pos) (tMT X.K tb)) : PW X (.BoolOp .Or (a :: b :: rest) pos) (tMT X.K (mOr ta tb)) :=
  PW.imp (pw_or ha hb) fun σ H Q ⟨ι, δ, M, d, M', hs, hm, he, k⟩ => by
    unfold mOr at he
    cases e1 : ta δ M with
    | none => rw [e1] at he; cases he
    | some r =>
      rw [e1] at he
      have he : (if r.1 = true then some (true, r.2) else tb δ r.2) = some (d, M') := he
      refine ⟨ι, δ, M, r.1, r.2, hs, hm, e1, fun ι' H' l m => ?_⟩
      split at he
      · rename_i h; simp only [h, if_true]; cases he; exact k ι' H' l m
      · rename_i h; simp only [h]
        exact ⟨ι', δ, r.2, d, M', hs.mono l, m, he, fun ι2 H2 l2 m2 => k ι2 H2 (l.trans l2) m2⟩
theorem mt_not (ha : PT X a (tMT X.K ta)) : PT X (.UnaryOp .Not a pos) (tMT X.K (mNot ta)) :=
  PT.imp (pt_not ha) fun σ H Q ⟨ι, δ, M, d, M', hs, hm, he, k⟩ => by
    unfold mNot at he
    cases e1 : ta δ M with
    | none => rw [e1] at he; cases he
    | some r => rw [e1] at he; cases he; exact ⟨ι, δ, M, r.1, r.2, hs, hm, e1, k⟩
/-! as values -/
def mAndV (ma mb : mE) : mE := fun δ M => match ma δ M with
  | some (.bl true, M1) => mb δ M1
  | some (.bl false, M1) => some (.bl false, M1)
  | _ => none
def mOrV (ma mb : mE) : mE := fun δ M => match ma δ M with
  | some (.bl true, M1) => some (.bl true, M1)
  | some (.bl false, M1) => mb δ M1
  | _ => none
def mNotV (ma : mE) : mE := fun δ M => match ma δ M with
  | some (.bl b, M1) => some (.bl (!b), M1)
  | _ => none
theorem me_and (ha : PE X a (tM X.K ma)) (hb : PE X (.BoolOp .And (b :: rest) pos) (tM X.K mb)) : PE X (.BoolOp .And (a :: b :: rest) pos) (tM X.K (mAndV ma mb)) :=
  PE.imp (pe_and ha hb) fun σ H Q ⟨ι, δ, M, d, M', hs, hm, he, k⟩ => by
    unfold mAndV at he
    split at he
    · rename_i M1 e1
      refine ⟨ι, δ, M, _, M1, hs, hm, e1, fun ι' H' v l m r => ?_⟩
      cases r
      exact ⟨true, rfl, iteT ⟨ι', δ, M1, d, M', hs.mono l, m, he, fun ι2 H2 v l2 m2 r => k ι2 H2 v (l.trans l2) m2 r⟩⟩
    · rename_i M1 e1; cases he
      refine ⟨ι, δ, M, _, _, hs, hm, e1, fun ι' H' v l m r => ?_⟩
      cases r
      exact ⟨false, rfl, iteF (k ι' H' _ l m (.bl _))⟩
    · cases he
theorem me_one {op : BoolOp} (ha : PE X a (tM X.K ma)) : PE X (.BoolOp op [a] pos) (tM X.K ma) := pe_one ha
theorem me_not (ha : PE X a (tM X.K ma)) : PE X (.UnaryOp .Not a pos) (tM X.K (mNotV ma)) :=
  PE.imp (pe_not ha) fun σ H Q ⟨ι, δ, M, d, M', hs, hm, he, k⟩ => by
    unfold mNotV at he
    split at he
    · rename_i b M1 e1; cases he
      refine ⟨ι, δ, M, _, _, hs, hm, e1, fun ι' H' v l m r => ?_⟩
      cases r
      exact ⟨b, rfl, k ι' H' _ l m (.bl _)⟩
    · cases he
def mIfE (t : mT) (ma mb : mE) : mE := fun δ M => (t δ M).bind fun r => if r.1 = true then ma δ r.2 else mb δ r.2
/-! ### arguments, displays -/
def mNil : mA := fun _ M => some ([], M)
def mCons (m : mE) (r : mA) : mA := fun δ M => (m δ M).bind fun x => (r δ x.2).map fun y => (x.1 :: y.1, y.2)
theorem ma_nil : PA X [] (tMA X.K mNil) := PA.imp pa_nil fun σ H Q ⟨ι, δ, M, d, M', hs, hm, he, k⟩ => by cases he; exact k ι H [] .refl hm .nil
theorem ma_cons (he : PE X e (tM X.K me)) (hr : PA X es (tMA X.K mr)) (hs : starEach (e :: es) X.env = (false, eval e X.env) :: starEach es X.env := by rfl) : PA X (e :: es) (tMA X.K (mCons me mr)) :=
  PA.imp (pa_cons he hr hs) fun σ H Q ⟨ι, δ, M, d, M', hs, hm, he, k⟩ => by
    unfold mCons at he
    cases e1 : me δ M with
    | none => rw [e1] at he; cases he
    | some x =>
      rw [e1] at he
      have he : (mr δ x.2).map (fun y => (x.1 :: y.1, y.2)) = some (d, M') := he
      cases e2 : mr δ x.2 with
      | none => rw [e2] at he; cases he
      | some y =>
        rw [e2] at he; cases he
        exact ⟨ι, δ, M, x.1, x.2, hs, hm, e1, fun ι1 H1 v l1 m1 r1 => ⟨ι1, δ, x.2, y.1, y.2, hs.mono l1, m1, e2, fun ι2 H2 vs l2 m2 r2 => k ι2 H2 _ (l1.trans l2) m2 (.cons (r1.mono l2) r2)⟩⟩
def mTup (m : mA) : mE := fun δ M => (m δ M).bind fun r => if r.1.length ≤ sizeLine then some (.tup r.1, r.2) else none
def mLst (m : mA) : mE := fun δ M => (m δ M).bind fun r => if r.1.length ≤ sizeLine then some (.obj r.2.length, r.2 ++ [.lst r.1]) else none
theorem me_tup {x1} (h : PA X es (tMA X.K mr)) : PE X (.Tuple es x1 pos) (tM X.K (mTup mr)) := PE.imp (pe_tup h) fun σ H Q ⟨ι, δ, M, d, M', hs, hm, he, k⟩ => by
  unfold mTup at he
  cases e1 : mr δ M with
  | none => rw [e1] at he; cases he
  | some r =>
    rw [e1] at he
    have he : (if r.1.length ≤ sizeLine then some (D.tup r.1, r.2) else none) = some (d, M') := he
    split at he
    · rename_i hz; cases he
      exact ⟨ι, δ, M, r.1, r.2, hs, hm, e1, fun ι1 H1 vs l1 m1 r1 => ⟨by rw [← r1.length]; exact hz, got_tup m1 r1 fun ι2 H2 v l2 m2 r2 => k ι2 H2 v (l1.trans l2) m2 r2⟩⟩
    · cases he
theorem me_lst (h : PA X es (tMA X.K mr)) : PE X (.List es pos) (tM X.K (mLst mr)) := PE.imp (pe_lst h) fun σ H Q ⟨ι, δ, M, d, M', hs, hm, he, k⟩ => by
  unfold mLst at he
  cases e1 : mr δ M with
  | none => rw [e1] at he; cases he
  | some r =>
    rw [e1] at he
    have he : (if r.1.length ≤ sizeLine then some (D.obj r.2.length, r.2 ++ [MO.lst r.1]) else none) = some (d, M') := he
    split at he
    · rename_i hz; cases he
      exact ⟨ι, δ, M, r.1, r.2, hs, hm, e1, fun ι1 H1 vs l1 m1 r1 => ⟨by rw [← r1.length]; exact hz, got_lst m1 r1 fun ι2 H2 v l2 m2 r2 => k ι2 H2 v (l1.trans l2) m2 r2⟩⟩
    · cases he

/-! ### subscripts -/
theorem ix_dict (hu : X.A.units + 1 < cLine) : IxR X (fun x y H Q => ∃ a v, x = .ref a ∧ DGet H a y (some v) ∧ Q v H) := by
  intro value slice pins s σ H x y v u Q I rx ry h hs
  obtain ⟨p, z, rfl, g, q⟩ := h
  cases rx
  exact PyProof.Rows.tail_any (dict_typeIs I g) PySem.F.slot_dict_getitem.lookup (d_getItem hu I g ry fun w' s3 I3 rw' => ⟨z, H, I3, rw', q⟩) hs
theorem atI_rel {ι : List Addr} {H : Hp} {xs : List D} {vs : List V} {i : Int} {d : D} (r : RelDs K ι H xs vs) (h : atI xs i = some d) : ∃ v, atI vs i = some v ∧ RelD K ι H d v := by
  unfold atI at h ⊢
  rw [← r.length]
  cases e : ixN xs.length i with
  | none => rw [e] at h; cases h
  | some j =>
    rw [e] at h
    exact r.get h
def ixD (x y : D) (M : Mem) : Option (D × Mem) := match x, y with
  | .tup xs, .int i => (atI xs i).map fun d => (d, M)
  | .str z, .int i => if z.length ≤ sizeLine then (atI z.cps.toList i).map fun c => (.str ⟨#[c]⟩, M) else none
  | .rol xs, .int i => (atI xs i).map fun d => (d, M)
  | .obj k, y => match asList M (.obj k) with
    | some xs => match y with
      | .int i => (atI xs i).map fun d => (d, M)
      | _ => none
    | none => match asDict M (.obj k) with
      | some kvs => (keyD y).bind fun key => (valD kvs key).map fun d => (d, M)
      | none => none
  | _, _ => none
def rIxA (K : PySem.W.Frag) : R2 := fun x y H Q => rIx K x y H Q ∨ ∃ a v, x = .ref a ∧ DGet H a y (some v) ∧ Q v H
theorem ix_m : OpM K (rIxA K) ixD := by
  intro ι H M x y vx vy d M' Q hm rx ry hf k
  unfold ixD at hf
  split at hf
  · rename_i xs i
    cases e : atI xs i with
    | none => rw [e] at hf; cases hf
    | some d' =>
      rw [e] at hf; cases hf
      cases ry
      cases rx with
      | tup h1 r1 =>
        obtain ⟨v, ev, rv⟩ := atI_rel r1 e
        exact .inl (.inr (.inl ⟨_, _, i, v, rfl, rfl, h1, ev, k ι H v .refl hm rv⟩))
  · rename_i z i; split at hf
    · rename_i hz
      cases e : atI z.cps.toList i with
      | none => rw [e] at hf; cases hf
      | some c => rw [e] at hf; cases hf; cases rx; cases ry; exact .inl (.inr (.inr ⟨z, i, c, rfl, rfl, hz, e, k ι H _ .refl hm (.str _)⟩))
    · cases hf
  · rename_i xs i
    cases e : atI xs i with
    | none => rw [e] at hf; cases hf
    | some d' =>
      rw [e] at hf; cases hf
      cases ry
      cases rx with
      | rol h1 r1 =>
        obtain ⟨v, ev, rv⟩ := atI_rel r1 e
        exact .inl (.inl ⟨_, _, i, v, rfl, rfl, h1.sq, ev, k ι H v .refl hm rv⟩)
  · rename_i j
    split at hf
    · rename_i xs e0
      split at hf
      · rename_i i
        cases e : atI xs i with
        | none => rw [e] at hf; cases hf
        | some d' =>
          rw [e] at hf; cases hf
          cases ry
          obtain ⟨p, vs, rfl, h1, r1⟩ := asList_rel hm e0 rx
          obtain ⟨v, ev, rv⟩ := atI_rel r1 e
          exact .inl (.inl ⟨p, vs, i, v, rfl, rfl, h1, ev, k ι H v .refl hm rv⟩)
      · cases hf
    · split at hf
      · rename_i kvs e0
        cases e : keyD y with
        | none => rw [e] at hf; cases hf
        | some key =>
          rw [e] at hf
          have hf : (valD kvs key).map (fun d => (d, M)) = some (d, M') := hf
          cases e2 : valD kvs key with
          | none => rw [e2] at hf; cases hf
          | some d' =>
            rw [e2] at hf; cases hf
            obtain ⟨p, vs, rfl, h1, r1⟩ := asDict_rel hm e0 rx
            obtain ⟨v, ev, rv⟩ := (r1.val key).1 _ e2
            exact .inr ⟨p, v, rfl, .inl ⟨vs, key, h1, keyD_rel e ry, ev.symm⟩, k ι H v .refl hm rv⟩
      · cases hf
  · cases hf
theorem me_ix (hu : X.A.units + 1 < cLine) (ha : PE X a (tM X.K ma)) (hb : PE X b (tM X.K mb)) (hs : PlainIx b) : PE X (.Subscript a b pos) (tM X.K (mBin ixD ma mb)) :=
  PE.imp (pe_ix (ix_seq.or (ix_dict hu)) ha hb hs) fun _ _ _ h => op_imp ix_m h

/-! ### in, not in -/
def asSeq (M : Mem) : D → Option (List D)
  | .tup xs => some xs
  | d => asList M d
theorem asSeq_rel {ι : List Addr} {H : Hp} {M : Mem} {d : D} {xs : List D} {v : V} (hm : RelM K ι H M) (h : asSeq M d = some xs) (r : RelD K ι H d v) : ∃ p vs, v = .ref p ∧ (SqL K H p vs ∨ SqT K H p vs) ∧ RelDs K ι H xs vs := by
  cases d with
  | tup ys =>
    cases h
    cases r with
    | tup h1 r1 => exact ⟨_, _, rfl, .inr h1, r1⟩
  | obj i => obtain ⟨p, vs, e, h1, r1⟩ := asList_rel hm (show asList M (.obj i) = some xs from h) r; exact ⟨p, vs, e, .inl h1, r1⟩
  | rol ys => obtain ⟨p, vs, e, h1, r1⟩ := asList_rel hm (show asList M (.rol ys) = some xs from h) r; exact ⟨p, vs, e, .inl h1, r1⟩
  | _ => cases h
end Mir

set_option Elab.async false
set_option linter.all false
set_option maxRecDepth 100000
set_option maxHeartbeats 4000000
namespace Mir
open PySem PySem.Spec L2
variable {X : Cx} {a b c e : Expr} {es rest : List Expr} {pos : Pos} {ma mb mc me : mE} {K : PySem.W.Frag} {ta tb : mT} {mr : mA} {st : Stmt} {sts : List Stmt} {m1 m2 : mS}

/-! ### blocks -/
def mSkip : mS := fun δ M => some (.nx δ, M)
def mSeq (m1 m2 : mS) : mS := fun δ M => (m1 δ M).bind fun r => match r.1 with
  | .nx δ' => m2 δ' r.2
  | f => some (f, r.2)
theorem ms_nil : PSs X [] (tMS X.K mSkip) := PSs.imp pss_nil fun E σ H ⟨ι, δ, M, f, M', hs, hm, he, k⟩ => by
  cases he
  exact k ι H .refl hm σ hs
theorem ms_one (h1 : PS X st (tMS X.K m1)) : PSs X [st] (tMS X.K m1) := pss_one h1
theorem ms_cons (h1 : PS X st (tMS X.K m1)) (h2 : PSs X sts (tMS X.K m2)) : PSs X (st :: sts) (tMS X.K (mSeq m1 m2)) := PSs.imp (pss_cons h1 h2) fun E σ H ⟨ι, δ, M, f, M', hs, hm, he, k⟩ => by
  unfold mSeq at he
  cases e1 : m1 δ M with
  | none => rw [e1] at he; cases he
  | some r =>
    obtain ⟨g, M1⟩ := r
    rw [e1] at he
    refine ⟨ι, δ, M, g, M1, hs, hm, e1, fun ι1 H1 l1 hm1 => ?_⟩
    cases g with
    | nx δ' => exact fun σ' hs' => ⟨ι1, δ', M1, f, M', hs', hm1, he, fun ι2 H2 l2 hm2 => k ι2 H2 (l1.trans l2) hm2⟩
    | rt d => cases he; exact k ι1 H1 l1 hm1
    | bk d => cases he; exact k ι1 H1 l1 hm1
    | ct d => cases he; exact k ι1 H1 l1 hm1
def mExpr (m : mE) : mS := fun δ M => (m δ M).map fun r => (.nx δ, r.2)
theorem ms_expr (he : PE X e (tM X.K me)) (hs : swapsWith e none pos.line X.env = pure false := by rfl) : PS X (.Expr e pos) (tMS X.K (mExpr me)) := PS.imp (ps_expr he hs) fun E σ H ⟨ι, δ, M, f, M', hs, hm, he, k⟩ => by
  unfold mExpr at he
  cases e1 : me δ M with
  | none => rw [e1] at he; cases he
  | some r => rw [e1] at he; cases he; exact ⟨ι, δ, M, r.1, r.2, hs, hm, e1, fun ι1 H1 v l1 hm1 _ => k ι1 H1 l1 hm1 σ (hs.mono l1)⟩
def mRet (m : mE) : mS := fun δ M => (m δ M).map fun r => (.rt r.1, r.2)
theorem ms_ret (he : PE X e (tM X.K me)) : PS X (.Return (some e) pos) (tMS X.K (mRet me)) := PS.imp (ps_ret he) fun E σ H ⟨ι, δ, M, f, M', hs, hm, he, k⟩ => by
  unfold mRet at he
  cases e1 : me δ M with
  | none => rw [e1] at he; cases he
  | some r => rw [e1] at he; cases he; exact ⟨ι, δ, M, r.1, r.2, hs, hm, e1, fun ι1 H1 v l1 hm1 r1 => k ι1 H1 l1 hm1 v r1⟩
def mIf (t : mT) (m1 m2 : mS) : mS := fun δ M => (t δ M).bind fun r => if r.1 = true then m1 δ r.2 else m2 δ r.2
theorem ms_if {sa sb : List Stmt} (hc : PT X c (tMT X.K ta)) (h1 : PSs X sa (tMS X.K m1)) (h2 : PSs X sb (tMS X.K m2)) : PS X (.If c sa sb pos) (tMS X.K (mIf ta m1 m2)) := PS.imp (ps_if hc h1 h2) fun E σ H ⟨ι, δ, M, f, M', hs, hm, he, k⟩ => by
  unfold mIf at he
  cases e1 : ta δ M with
  | none => rw [e1] at he; cases he
  | some r =>
    rw [e1] at he
    have he : (if r.1 = true then m1 δ r.2 else m2 δ r.2) = some (f, M') := he
    refine ⟨ι, δ, M, r.1, r.2, hs, hm, e1, fun ι' H' l m => ?_⟩
    split at he
    · rename_i h; simp only [h, if_true]
      exact ⟨ι', δ, r.2, f, M', hs.mono l, m, he, fun ι2 H2 l2 m2 => k ι2 H2 (l.trans l2) m2⟩
    · rename_i h; simp only [h]
      exact ⟨ι', δ, r.2, f, M', hs.mono l, m, he, fun ι2 H2 l2 m2 => k ι2 H2 (l.trans l2) m2⟩

/-! ### targets: a name, a tuple of names -/
def setAll {α : Type} (σ : List (Option α)) : List Nat → List α → List (Option α)
  | i :: is, x :: xs => setAll (σ.set i (some x)) is xs
  | _, _ => σ
theorem setAll_rel {ι : List Addr} {H : Hp} : ∀ {is : List Nat} {xs : List D} {vs : List V} {δ : DSt} {σ : St}, RelS K ι H δ σ → RelDs K ι H xs vs → RelS K ι H (setAll δ is xs) (setAll σ is vs)
  | [], xs, vs, δ, σ, h, r => by cases r <;> exact h
  | i :: is, _, _, δ, σ, h, .nil => h
  | i :: is, d :: ds, v :: vs, δ, σ, h, .cons r t => show RelS K ι H (setAll (δ.set i (some d)) is ds) (setAll (σ.set i (some v)) is vs) from setAll_rel (h.set r i) t
def wipeD (δ : DSt) : List Nat → DSt
  | [] => δ
  | i :: r => (wipeD δ r).set i none
abbrev mG := D → DSt → Option DSt
def gOne (i : Nat) : mG := fun d δ => some (δ.set i (some d))
def gMany (is : List Nat) : mG := fun d δ => match d with
  | .tup xs => if xs.length = is.length then some (setAll δ is xs) else none
  | _ => none
def tMG (K : PySem.W.Frag) (g : mG) (vs : List Nat) : TG := fun v σ H Q => ∃ ι δ d δ', RelS K ι H δ σ ∧ RelD K ι H d v ∧ g d δ = some δ' ∧ ∀ σ', RelS K ι H δ' σ' → wipe σ' vs = wipe σ vs → Q σ' H
theorem PG.imp {tg : Expr} {t t' : TG} (h : PG X tg t) (f : ∀ v σ H Q, t' v σ H Q → t v σ H Q) : PG X tg t' := fun pins s σ H v u Q I r q => h pins s σ H v u Q I r (f _ _ _ _ q)
theorem wipe_get (σ : St) (k : Nat) : ∀ vs : List Nat, (wipe σ vs)[k]? = if k ∈ vs then (σ[k]?).map (fun _ => none) else σ[k]?
  | [] => by simp [wipe]
  | j :: r => by
    show ((wipe σ r).set j none)[k]? = _
    have ih := wipe_get σ k r
    by_cases e : j = k
    · subst e
      rw [List.getElem?_set]
      simp only [if_true, List.mem_cons, true_or, wipe_length]
      cases h : σ[j]? with
      | none => rw [if_neg (by have := List.getElem?_eq_none_iff.mp h; omega)]; rfl
      | some x => rw [if_pos (List.getElem?_eq_some_iff.mp h).1]; rfl
    · rw [List.getElem?_set_ne e, ih]
      have : (k ∈ j :: r) ↔ k ∈ r := by simp [List.mem_cons, Ne.symm e]
      simp only [this]
theorem wipe_set {i : Nat} {v : Option V} {vs : List Nat} {σ : St} (h : i ∈ vs) : wipe (σ.set i v) vs = wipe σ vs := by
  apply List.ext_getElem?
  intro k
  rw [wipe_get, wipe_get]
  split
  · rename_i hk
    rw [List.getElem?_set]
    split
    · rename_i e; subst e
      split
      · rename_i hl; rw [List.getElem?_eq_getElem hl]; rfl
      · rename_i hl; rw [List.getElem?_eq_none_iff.mpr (by omega)]
    · rfl
  · rename_i hk
    rw [List.getElem?_set_ne (by rintro rfl; exact hk h)]
theorem wipe_setAll : ∀ {is : List Nat} {xs : List V} {σ : St} {vs : List Nat}, (∀ i ∈ is, i ∈ vs) → wipe (setAll σ is xs) vs = wipe σ vs
  | [], xs, _, _, _ => by cases xs <;> rfl
  | _ :: _, [], _, _, _ => rfl
  | i :: is, x :: xs, σ, vs, h => by
    show wipe (setAll (σ.set i (some x)) is xs) vs = _
    rw [wipe_setAll (fun j hj => h j (List.mem_cons_of_mem _ hj)), wipe_set (h i List.mem_cons_self)]
theorem wipe_wipe (σ : St) (vs : List Nat) : wipe (wipe σ vs) vs = wipe σ vs := by
  apply List.ext_getElem?
  intro k
  rw [wipe_get, wipe_get]
  split
  · cases σ[k]? <;> rfl
  · rfl
theorem wipe_rel {ι : List Addr} {H : Hp} {δ : DSt} {σ : St} (h : RelS K ι H δ σ) : ∀ {vs : List Nat}, RelS K ι H (wipeD δ vs) (wipe σ vs)
  | [] => h
  | i :: r => by
    have ih := wipe_rel h (vs := r)
    refine ⟨by show ((wipeD δ r).set i none).length = ((wipe σ r).set i none).length; simp [ih.1], fun j d e => ?_⟩
    have e : ((wipeD δ r).set i none)[j]? = some (some d) := e
    show ∃ v, ((wipe σ r).set i none)[j]? = some (some v) ∧ _
    by_cases hij : i = j
    · subst hij
      rw [List.getElem?_set] at e
      simp only [if_true] at e
      split at e <;> cases e
    · rw [List.getElem?_set_ne hij] at e
      obtain ⟨v, q, r⟩ := ih.2 j d e
      exact ⟨v, by rw [List.getElem?_set_ne hij]; exact q, r⟩
theorem mg_one {tg : Expr} {i : Nat} (h : PG X tg (gName i)) {vs : List Nat} (hi : i ∈ vs) : PG X tg (tMG X.K (gOne i) vs) := PG.imp h fun v σ H Q ⟨ι, δ, d, δ', hs, r, e, k⟩ => by
  cases e
  exact k _ (hs.set r i) (wipe_set hi)
/-- names one after another -/
def gNames : List Nat → TGs
  | [] => gNil
  | i :: r => gCons (gName i) (gNames r)
theorem gNames_of : ∀ {is : List Nat} {xs : List V} {σ : St} {H : Hp} {Q : St → Hp → Prop}, xs.length = is.length → Q (setAll σ is xs) H → gNames is xs σ H Q
  | [], [], _, _, _, _, q => ⟨rfl, q⟩
  | [], _ :: _, _, _, _, h, _ => by simp at h
  | _ :: _, [], _, _, _, h, _ => by simp at h
  | i :: is, x :: xs, σ, H, Q, h, q => ⟨x, xs, rfl, gNames_of (is := is) (xs := xs) (σ := σ.set i (some x)) (by simpa using h) q⟩
theorem mg_many {tg : Expr} {is : List Nat} (h : PG X tg (gTup X.K is.length (gNames is))) {vs : List Nat} (hi : ∀ i ∈ is, i ∈ vs) : PG X tg (tMG X.K (gMany is) vs) := PG.imp h fun v σ H Q ⟨ι, δ, d, δ', hs, r, e, k⟩ => by
  unfold gMany at e
  split at e
  · rename_i xs; split at e
    · rename_i hl; cases e
      cases r with
      | tup h1 r1 =>
        have hl' := r1.length.symm.trans hl
        exact ⟨_, _, rfl, h1, hl', gNames_of hl' (k _ (setAll_rel hs r1) (wipe_setAll hi))⟩
    · cases e
  · cases e
/-- tg = e -/
def mAsgG (m : mE) (g : mG) : mS := fun δ M => (m δ M).bind fun r => (g r.1 δ).map fun δ' => (.nx δ', r.2)
theorem asg_imp {vs : List Nat} {g : mG} {E : Ends} {σ : St} {H : Hp} (h : tMS X.K (mAsgG me g) E σ H) : tAsg (tM X.K me) (tMG X.K g vs) E σ H := by
  obtain ⟨ι, δ, M, f, M', hs, hm, he, k⟩ := h
  unfold mAsgG at he
  cases e1 : me δ M with
  | none => rw [e1] at he; cases he
  | some r =>
    rw [e1] at he
    have he : (g r.1 δ).map (fun δ' => (Fl.nx δ', r.2)) = some (f, M') := he
    cases e2 : g r.1 δ with
    | none => rw [e2] at he; cases he
    | some δ' =>
      rw [e2] at he; cases he
      exact ⟨ι, δ, M, r.1, r.2, hs, hm, e1, fun ι1 H1 v l1 hm1 r1 => ⟨ι1, δ, r.1, δ', hs.mono l1, r1, e2, fun σ' hs' _ => k ι1 H1 l1 hm1 σ' hs'⟩⟩
abbrev mAsg (i : Nat) (m : mE) : mS := mAsgG m (gOne i)
theorem ms_set {i : Nat} (h : PS X st (tAsg (tM X.K me) (gName i))) : PS X st (tMS X.K (mAsg i me)) := PS.imp h fun E σ H h => by
  obtain ⟨ι, δ, M, d, M', hs, hm, he, k⟩ := asg_imp (vs := [i]) h
  exact ⟨ι, δ, M, d, M', hs, hm, he, fun ι' H' v l m r => by
    obtain ⟨ι2, δ2, d2, δ', hs2, r2, e2, k2⟩ := k ι' H' v l m r
    cases e2
    exact k2 _ (hs2.set r2 i) (wipe_set (List.mem_singleton.mpr rfl))⟩
theorem ms_asg {tg : Expr} {g : mG} {vs : List Nat} (h : PS X st (tAsg (tM X.K me) (tMG X.K g vs))) : PS X st (tMS X.K (mAsgG me g)) := PS.imp h fun E σ H h => asg_imp h

/-! ### what a loop walks -/
structure MI where
  items : List D
  guard : List (Nat × MO)
abbrev mI := DSt → Mem → Option (MI × Mem)
def Guarded (M : Mem) (g : List (Nat × MO)) : Prop := ∀ p ∈ g, M[p.1]? = some p.2
def ItR (K : PySem.W.Frag) (ι : List Addr) (H : Hp) (J : It) (it : MI) : Prop :=
  ∀ ι1 H1 M1, Le K ι H ι1 H1 → RelM K ι1 H1 M1 → Guarded M1 it.guard → ∀ i : Nat,
    (∀ d, it.items[i]? = some d → J.go i H1 ∧ ∀ x H2, J.yld i H1 x H2 → ∃ ι2, Le K ι1 H1 ι2 H2 ∧ RelM K ι2 H2 M1 ∧ RelD K ι2 H2 d x) ∧ (it.items.length ≤ i → J.stop i H1)
def tMI (K : PySem.W.Frag) (m : mI) : TI := fun σ H R => ∃ ι δ M it M', RelS K ι H δ σ ∧ RelM K ι H M ∧ m δ M = some (it, M') ∧
  ∀ ι' H' J, Le K ι H ι' H' → RelM K ι' H' M' → ItR K ι' H' J it → R J H'
theorem PI.imp {tg it : Expr} {t t' : TI} (h : PI X tg it t) (f : ∀ σ H R, t' σ H R → t σ H R) : PI X tg it t' := fun pins s σ H R I q => h pins s σ H R I (f _ _ _ q)
open Classical in
/-- a loop over the items -/
noncomputable def loopM (gd : List (Nat × MO)) (g : mG) (body : mS) : List D → DSt → Mem → Option (Fl × Mem)
  | [], δ, M => if Guarded M gd then some (.nx δ, M) else none
  | d :: r, δ, M => if Guarded M gd then (g d δ).bind fun δ1 => (body δ1 M).bind fun q => match q.1 with
      | .nx δ2 => loopM gd g body r δ2 q.2
      | .ct δ2 => loopM gd g body r δ2 q.2
      | .bk δ2 => some (.nx δ2, q.2)
      | .rt v => some (.rt v, q.2)
    else none
theorem loopM_nil {gd g body δ} {M : Mem} (h : Guarded M gd) : loopM gd g body [] δ M = some (.nx δ, M) := by unfold loopM; rw [if_pos h]
theorem loopM_cons {gd g body δ d r} {M : Mem} (h : Guarded M gd) : loopM gd g body (d :: r) δ M = (g d δ).bind fun δ1 => (body δ1 M).bind fun q => match q.1 with
      | .nx δ2 => loopM gd g body r δ2 q.2
      | .ct δ2 => loopM gd g body r δ2 q.2
      | .bk δ2 => some (.nx δ2, q.2)
      | .rt v => some (.rt v, q.2) := by
  conv => lhs; unfold loopM
  rw [if_pos h]
theorem loopM_guard {gd g body δ l} {M : Mem} {x} (h : loopM gd g body l δ M = some x) : Guarded M gd := by
  cases l with
  | nil => unfold loopM at h; split at h; assumption; cases h
  | cons d r => unfold loopM at h; split at h; assumption; cases h
noncomputable def mFor (mi : mI) (g : mG) (body : mS) : mS := fun δ M => (mi δ M).bind fun r => loopM r.1.guard g body r.1.items δ r.2
theorem ms_for {tg iter : Expr} {body : List Stmt} {mi : mI} {g : mG} {vs : List Nat} {mb : mS} (hp : PassesOwn (model X.prog X.w) X.A X.env X.xe) (hc : X.calm = true) (hi : PI X tg iter (tMI X.K mi)) (hg : PG X tg (tMG X.K g vs)) (hb : PSs X body (tMS X.K mb))
    (hs : ∀ x, foldedSetIterable iter X.env x = pure x := by intro _; rfl) : PS X (.For tg iter body [] pos) (tMS X.K (mFor mi g mb)) := PS.imp (ps_for hp hc hi hg hb hs) fun E σ H ⟨ι, δ, M, f, M', hs, hm, he, k⟩ => by
  unfold mFor at he
  cases e1 : mi δ M with
  | none => rw [e1] at he; cases he
  | some r =>
    obtain ⟨⟨items, gd⟩, M0⟩ := r
    rw [e1] at he
    have he : loopM gd g mb items δ M0 = some (f, M') := he
    refine ⟨ι, δ, M, ⟨items, gd⟩, M0, hs, hm, e1, fun ι0 H0 J l0 hm0 hJ => ?_⟩
    refine ⟨fun i m σ H => m = items.length - i ∧ i ≤ items.length ∧ ∃ ι1 δ1 M1, Le X.K ι0 H0 ι1 H ∧ RelM X.K ι1 H M1 ∧ RelS X.K ι1 H δ1 σ ∧ loopM gd g mb (items.drop i) δ1 M1 = some (f, M'),
      ⟨_, rfl, Nat.zero_le _, ι0, δ, M0, .refl, hm0, hs.mono l0, he⟩, ?_⟩
    rintro i m σ1 H1 ⟨rfl, hil, ι1, δ1, M1, l1, hm1, hs1, hl⟩
    have gdd := loopM_guard hl
    have hj := hJ ι1 H1 M1 l1 hm1 gdd i
    by_cases hlt : i < items.length
    · have ed : items.drop i = items[i] :: items.drop (i + 1) := List.drop_eq_getElem_cons hlt
      rw [ed, loopM_cons gdd] at hl
      obtain ⟨go, hy⟩ := hj.1 _ (List.getElem?_eq_getElem hlt)
      cases eg : g items[i] δ1 with
      | none => rw [eg] at hl; cases hl
      | some δ2 =>
        rw [eg] at hl
        cases eb : mb δ2 M1 with
        | none => simp only [eb, Option.bind_some, Option.bind_none] at hl; cases hl
        | some q =>
          obtain ⟨fl, M2⟩ := q
          simp only [eb, Option.bind_some] at hl
          refine .inr ⟨go, fun σ' H' => ∃ ι3 δ3 M3, Le X.K ι0 H0 ι3 H' ∧ RelM X.K ι3 H' M3 ∧ RelS X.K ι3 H' δ3 σ' ∧ loopM gd g mb (items.drop (i + 1)) δ3 M3 = some (f, M'), fun σ' H' h' => ⟨items.length - (i + 1), by omega, rfl, hlt, h'⟩, fun x H2 y => ?_⟩
          obtain ⟨ι2, l2, hm2, rx⟩ := hy x H2 y
          refine ⟨ι2, δ1, items[i], δ2, hs1.mono l2, rx, eg, fun σ2 hs2 _ => ⟨ι2, δ2, M1, fl, M2, hs2, hm2, eb, fun ι3 H3 l3 hm3 => ?_⟩⟩
          have l13 := (l1.trans l2).trans l3
          cases fl with
          | nx δ3 => exact fun σ3 hs3 => ⟨ι3, δ3, M2, l13, hm3, hs3, hl⟩
          | ct δ3 => exact fun σ3 hs3 => ⟨ι3, δ3, M2, l13, hm3, hs3, hl⟩
          | bk δ3 => cases hl; exact k ι3 H3 (l0.trans l13) hm3
          | rt v => cases hl; exact k ι3 H3 (l0.trans l13) hm3
    · have ei : i = items.length := by omega
      subst ei
      rw [List.drop_length, loopM_nil gdd] at hl
      cases hl
      exact .inl ⟨hj.2 (Nat.le_refl _), k ι1 H1 (l0.trans l1) hm1 σ1 hs1⟩

/-! ### while, with so many turns at most -/
/-! ### comprehensions -/
def mYes : mT := fun _ M => some (true, M)
open Classical in
noncomputable def lcM (gd : List (Nat × MO)) (g : mG) (tt : mT) (te : mE) (δ : DSt) : List D → Mem → Option (List D × Mem)
  | [], M => if Guarded M gd then some ([], M) else none
  | d :: r, M => if Guarded M gd then (g d δ).bind fun δ1 => (tt δ1 M).bind fun t => if t.1 = true then (te δ1 t.2).bind fun y => (lcM gd g tt te δ r y.2).map fun q => (y.1 :: q.1, q.2) else lcM gd g tt te δ r t.2 else none
theorem lcM_nil {gd g tt te δ} {M : Mem} (h : Guarded M gd) : lcM gd g tt te δ [] M = some ([], M) := by unfold lcM; rw [if_pos h]
theorem lcM_cons {gd g tt te δ d r} {M : Mem} (h : Guarded M gd) : lcM gd g tt te δ (d :: r) M = (g d δ).bind fun δ1 => (tt δ1 M).bind fun t => if t.1 = true then (te δ1 t.2).bind fun y => (lcM gd g tt te δ r y.2).map fun q => (y.1 :: q.1, q.2) else lcM gd g tt te δ r t.2 := by
  conv => lhs; unfold lcM
  rw [if_pos h]
theorem lcM_guard {gd g tt te δ l} {M : Mem} {x} (h : lcM gd g tt te δ l M = some x) : Guarded M gd := by
  cases l with
  | nil => unfold lcM at h; split at h; assumption; cases h
  | cons d r => unfold lcM at h; split at h; assumption; cases h
noncomputable def mLc (mi : mI) (g : mG) (tt : mT) (te : mE) (vs : List Nat) : mE := fun δ M => (mi δ M).bind fun r => (lcM r.1.guard g tt te (wipeD δ vs) r.1.items r.2).bind fun q =>
  if q.1.length ≤ sizeLine then some (.obj q.2.length, q.2 ++ [.lst q.1]) else none
theorem lc_imp {mi : mI} {g : mG} {tt : mT} {te : mE} {vs : List Nat} {σ : St} {H : Hp} {Q : VK} (h : tM X.K (mLc mi g tt te vs) σ H Q) : tLc (tMI X.K mi) (tMG X.K g vs) (tMT X.K tt) (tM X.K te) vs σ H Q := by
  obtain ⟨ι, δ, M, d, M', hs, hm, he, k⟩ := h
  unfold mLc at he
  cases e1 : mi δ M with
  | none => rw [e1] at he; cases he
  | some r =>
    obtain ⟨⟨items, gd⟩, M0⟩ := r
    rw [e1] at he
    simp only [Option.bind_some] at he
    cases e2 : lcM gd g tt te (wipeD δ vs) items M0 with
    | none => rw [e2] at he; cases he
    | some q =>
      obtain ⟨out, Me⟩ := q
      rw [e2] at he
      simp only [Option.bind_some] at he
      split at he
      · rename_i hz; cases he
        refine ⟨ι, δ, M, ⟨items, gd⟩, M0, hs, hm, e1, fun ι0 H0 J l0 hm0 hJ D hD => ?_⟩
        have hDi : D ∉ ι0 := fun m => by obtain ⟨o, e⟩ := hm0.mem m; rw [hD] at e; cases e
        refine ⟨fun i m H => m = items.length - i ∧ i ≤ items.length ∧ ∃ ι1 M1 acc vacc rest, Le X.K ι0 H0 ι1 H ∧ RelM X.K ι1 H M1 ∧ D ∉ ι1 ∧ H D = some (.lst vacc) ∧ RelDs X.K ι1 H acc vacc ∧ lcM gd g tt te (wipeD δ vs) (items.drop i) M1 = some (rest, Me) ∧ acc ++ rest = out,
          ⟨_, rfl, Nat.zero_le _, ι0, M0, [], [], out, le_new0 hD, hm0.new0 hD, hDi, upd_same, .nil, e2, rfl⟩, ?_⟩
        rintro i m H1 ⟨rfl, hil, ι1, M1, acc, vacc, rest, l1, hm1, nD, hHD, racc, hl, eo⟩
        have gdd := lcM_guard hl
        have hj := hJ ι1 H1 M1 l1 hm1 gdd i
        by_cases hlt : i < items.length
        · have ed : items.drop i = items[i] :: items.drop (i + 1) := List.drop_eq_getElem_cons hlt
          rw [ed, lcM_cons gdd] at hl
          obtain ⟨go, hy⟩ := hj.1 _ (List.getElem?_eq_getElem hlt)
          cases eg : g items[i] (wipeD δ vs) with
          | none => rw [eg] at hl; cases hl
          | some δ2 =>
            rw [eg] at hl
            cases et : tt δ2 M1 with
            | none => simp only [et, Option.bind_some, Option.bind_none] at hl; cases hl
            | some q =>
              obtain ⟨b, M2⟩ := q
              simp only [et, Option.bind_some] at hl
              refine .inr ⟨go, fun H' => ∃ ι3 M3 acc vacc rest, Le X.K ι0 H0 ι3 H' ∧ RelM X.K ι3 H' M3 ∧ D ∉ ι3 ∧ H' D = some (.lst vacc) ∧ RelDs X.K ι3 H' acc vacc ∧ lcM gd g tt te (wipeD δ vs) (items.drop (i + 1)) M3 = some (rest, Me) ∧ acc ++ rest = out,
                fun H' h' => ⟨items.length - (i + 1), by omega, rfl, hlt, h'⟩, fun x H2 y => ?_⟩
              obtain ⟨ι2, l2, hm2, rx⟩ := hy x H2 y
              refine ⟨ι2, wipeD δ vs, items[i], δ2, wipe_rel (hs.mono (l0.trans (l1.trans l2))), rx, eg, fun σ2 hs2 hw2 => ⟨hw2.trans (wipe_wipe σ vs), ι2, δ2, M1, b, M2, hs2, hm2, et, fun ι3 H3 l3 hm3 => ?_⟩⟩
              have l23 := l2.trans l3
              obtain ⟨hD3, nD3⟩ := l23.kp D _ hHD nD
              cases b with
              | true =>
                simp only [if_true] at hl ⊢
                cases ee : te δ2 M2 with
                | none => rw [ee] at hl; cases hl
                | some z =>
                  obtain ⟨y', M3⟩ := z
                  rw [ee] at hl
                  simp only [Option.bind_some] at hl
                  cases er : lcM gd g tt te (wipeD δ vs) (items.drop (i + 1)) M3 with
                  | none => rw [er] at hl; cases hl
                  | some w =>
                    obtain ⟨rest', Mw⟩ := w
                    rw [er] at hl; cases hl
                    refine ⟨ι3, δ2, M2, y', M3, hs2.mono l3, hm3, ee, fun ι4 H4 v l4 hm4 r4 => ?_⟩
                    obtain ⟨hD4, nD4⟩ := l4.kp D _ hD3 nD3
                    have lo : Lo X.K ι4 H4 ι4 (upd H4 D (.lst (vacc ++ [v]))) := ⟨fun _ _ h => h, fun b xs q => by
                      rcases q with (q | ⟨u, q⟩) | q
                      · exact .inl (.inl (by rw [upd_ne (ne_of q hD4 (by intro z; cases z))]; exact q))
                      · exact .inl (.inr ⟨u, by rw [upd_ne (ne_of q hD4 (by intro z; cases z))]; exact q⟩)
                      · exact .inr q, fun b xs q => by
                      rcases q with ⟨u, q⟩ | q
                      · exact .inl ⟨u, by rw [upd_ne (ne_of q hD4 (by intro z; cases z))]; exact q⟩
                      · exact .inr q, fun b u q => by rw [upd_ne (ne_of q hD4 (by intro z; cases z))]; exact q⟩
                    have l14 := l1.trans (l23.trans l4)
                    refine ⟨vacc, hD4, ?_, ι4, M3, acc ++ [y'], vacc ++ [v], rest', ⟨l14.ix, fun b xs q => lo.tp b xs (l14.tp b xs q), fun b xs q => lo.rl b xs (l14.rl b xs q), fun b o q n => ?_, fun b o u q => ?_, fun b u q => lo.tb b u (l14.tb b u q)⟩, hm4.keep (fun b hb => upd_ne (fun z => nD4 (by rw [← z]; exact hb))) lo, nD4, upd_same, ?_, er, ?_⟩
                    · rw [← racc.length]
                      rw [← eo] at hz
                      simp only [List.length_append, List.length_cons] at hz
                      omega
                    · obtain ⟨q1, q2⟩ := l14.kp b o q n
                      exact ⟨by rw [upd_ne (ne_of_none q hD)]; exact q1, q2⟩
                    · rw [upd_ne (ne_of_none q hD)]; exact l14.fz b o u q
                    · exact ((racc.mono (l23.trans l4)).append (.cons r4 .nil)).mono lo
                    · rw [List.append_assoc]; exact eo
              | false =>
                simp only [Bool.false_eq_true, if_false] at hl ⊢
                exact ⟨ι3, M2, acc, vacc, rest, l1.trans l23, hm3, nD3, hD3, racc.mono l23, hl, eo⟩
        · have ei : i = items.length := by omega
          subst ei
          rw [List.drop_length, lcM_nil gdd] at hl
          cases hl
          rw [List.append_nil] at eo
          subst eo
          refine .inl ⟨hj.2 (Nat.le_refl _), k (ι1 ++ [D]) H1 _ ?_ (hm1.add nD ⟨vacc, hHD, racc.mono ⟨fun j b e => by rw [List.getElem?_append_left (List.getElem?_eq_some_iff.mp e).1]; exact e, fun _ _ h => h, fun _ _ h => h, fun _ _ h => h⟩⟩) (.obj (by rw [← hm1.len]; simp))⟩
          have l01 := l0.trans l1
          refine ⟨fun j b e => by have := l01.ix j b e; rw [List.getElem?_append_left (List.getElem?_eq_some_iff.mp this).1]; exact this, l01.tp, l01.rl, fun b o q n => ?_, l01.fz, l01.tb⟩
          obtain ⟨q1, q2⟩ := l01.kp b o q n
          refine ⟨q1, fun z => ?_⟩
          rcases List.mem_append.mp z with z | z
          · exact q2 z
          · have : b = D := by simpa using z
            subst this
            have := (l0.kp b o q n).1
            rw [hD] at this
            cases this
      · cases he
end Mir

set_option Elab.async false
set_option linter.all false
set_option maxRecDepth 100000
set_option maxHeartbeats 4000000
namespace Mir
open PySem PySem.Spec L2
variable {X : Cx} {a b c e tg : Expr} {es rest : List Expr} {pos : Pos} {ma mb mc me : mE} {K : PySem.W.Frag} {ta tb : mT} {mr : mA} {st : Stmt} {sts : List Stmt} {m1 m2 : mS}

/-! ### what is walked -/
theorem itR_tup {ι : List Addr} {H : Hp} {p : Addr} {xs : List D} {vs : List V} (h : SqT K H p vs) (r : RelDs K ι H xs vs) : ItR K ι H (Itt K p) ⟨xs, []⟩ := by
  intro ι1 H1 M1 l1 hm1 _ i
  have h1 := l1.tp _ _ h
  refine ⟨fun d e => ?_, fun hl => ⟨vs, h1, by rw [← r.length]; exact hl⟩⟩
  obtain ⟨v, ev, rv⟩ := r.get e
  refine ⟨⟨vs, v, h1, ev⟩, fun x H2 y => ?_⟩
  obtain ⟨rfl, y⟩ := y
  have := y vs h1
  rw [ev] at this
  cases this
  exact ⟨ι1, .refl, hm1, rv.mono l1⟩
theorem itR_lst {ι : List Addr} {H : Hp} {M : Mem} {p : Addr} {i0 : Nat} {xs : List D} (hi : ι[i0]? = some p) (he : M[i0]? = some (.lst xs)) : ItR K ι H (Itl K p) ⟨xs, [(i0, .lst xs)]⟩ := by
  intro ι1 H1 M1 l1 hm1 gd i
  have e1 : M1[i0]? = some (.lst xs) := gd (i0, .lst xs) (List.mem_singleton.mpr rfl)
  obtain ⟨q, hq, vs, hH, r⟩ := hm1.at e1
  rw [l1.ix _ _ hi] at hq
  cases hq
  refine ⟨fun d e => ?_, fun hl => ⟨vs, .of hH, by rw [← r.length]; exact hl⟩⟩
  obtain ⟨v, ev, rv⟩ := r.get e
  refine ⟨⟨vs, v, .of hH, ev⟩, fun x H2 y => ?_⟩
  obtain ⟨rfl, y⟩ := y
  have := y vs (.of hH)
  rw [ev] at this
  cases this
  exact ⟨ι1, .refl, hm1, rv⟩
theorem itR_rol {ι : List Addr} {H : Hp} {p : Addr} {xs : List D} {vs : List V} (h : SqF K H p vs) (r : RelDs K ι H xs vs) : ItR K ι H (Itl K p) ⟨xs, []⟩ := by
  intro ι1 H1 M1 l1 hm1 _ i
  have h1 := (l1.rl _ _ h).sq
  refine ⟨fun d e => ?_, fun hl => ⟨vs, h1, by rw [← r.length]; exact hl⟩⟩
  obtain ⟨v, ev, rv⟩ := r.get e
  refine ⟨⟨vs, v, h1, ev⟩, fun x H2 y => ?_⟩
  obtain ⟨rfl, y⟩ := y
  have := y vs h1
  rw [ev] at this
  cases this
  exact ⟨ι1, .refl, hm1, rv.mono l1⟩
theorem itR_rng {ι : List Addr} {H : Hp} {lo : Int} {n : Nat} : ItR K ι H (Itr lo n) ⟨(List.range n).map fun k : Nat => D.int (lo + k), []⟩ := by
  intro ι1 H1 M1 l1 hm1 _ i
  refine ⟨fun d e => ?_, fun hl => ?_⟩
  · rw [List.getElem?_map] at e
    have hi : i < n := by
      cases h : (List.range n)[i]? with
      | none => rw [h] at e; cases e
      | some z => have := (List.getElem?_eq_some_iff.mp h).1; simpa using this
    rw [List.getElem?_range hi] at e
    cases e
    refine ⟨hi, fun x H2 y => ?_⟩
    obtain ⟨rfl, rfl⟩ := y
    exact ⟨ι1, .refl, hm1, .int _⟩
  · show n ≤ i
    simpa using hl
theorem itR_str {ι : List Addr} {H : Hp} {z : Str} : ItR K ι H (Its z) ⟨z.cps.toList.map fun c => D.str ⟨#[c]⟩, []⟩ := by
  intro ι1 H1 M1 l1 hm1 _ i
  refine ⟨fun d e => ?_, fun hl => ?_⟩
  · rw [List.getElem?_map] at e
    cases h : z.cps.toList[i]? with
    | none => rw [h] at e; cases e
    | some c =>
      rw [h] at e
      cases e
      have hi : i < z.cps.size := by have := (List.getElem?_eq_some_iff.mp h).1; simpa using this
      refine ⟨hi, fun x H2 y => ?_⟩
      obtain ⟨rfl, c', e', rfl⟩ := y
      have : z.cps[i]? = some c := by rw [← Array.getElem?_toList]; exact h
      rw [this] at e'
      cases e'
      exact ⟨ι1, .refl, hm1, .str _⟩
  · show z.cps.size ≤ i
    simpa using hl
/-- a list, a tuple or a text -/
def itAny (M : Mem) : D → Option MI
  | .tup xs => some ⟨xs, []⟩
  | .str z => some ⟨z.cps.toList.map fun c => D.str ⟨#[c]⟩, []⟩
  | .obj i => match M[i]? with
    | some (.lst xs) => some ⟨xs, [(i, .lst xs)]⟩
    | _ => none
  | .rol xs => some ⟨xs, []⟩
  | _ => none
def iAny (K : PySem.W.Frag) (te : TE) : TI := fun σ H R => te σ H fun x H1 => (∃ a, x = .ref a ∧ (∃ xs, SqL K H1 a xs) ∧ R (Itl K a) H1) ∨ (∃ a, x = .ref a ∧ (∃ xs, SqT K H1 a xs) ∧ R (Itt K a) H1) ∨ ∃ z, x = .str z ∧ R (Its z) H1
theorem pi_any {te : TE} (he : PE X e te) : PI X tg e (iAny X.K te) := by
  intro pins s σ H R I h
  refine thn (he pins s σ H _ I h) fun v s1 ⟨y, H1, I1, r1, q⟩ => ?_
  rcases q with ⟨a, rfl, ⟨xs, hq⟩, q⟩ | ⟨a, rfl, ⟨xs, hq⟩, q⟩ | ⟨x, rfl, q⟩
  · cases r1
    obtain ⟨its, rv, p, hz⟩ := I1.list hq
    refine wpAny_pyIter_list p.isList ?_
    refine ⟨s1.heap.objs.size, [s1.heap.objs.size], _, _, H1, rfl, I1.kept (t' := s1.toks) fun b o e => Heap.get?_push_of_some _ e, turn_list a _, ⟨_, Heap.get?_push_size _ rfl, rfl, rfl⟩, fun b hb => ?_, q⟩
    have e : b = s1.heap.objs.size := by simpa using hb
    subst e
    exact I1.fpOk (Nat.le_refl _) (I1.hok.fresh (Nat.le_refl _))
  · cases r1
    obtain ⟨its, rv, p, hz⟩ := I1.tuple hq
    refine wpAny_pyIter_tuple (show s1.heap.IsTuple a its.toArray from p) ?_
    refine ⟨s1.heap.objs.size, [s1.heap.objs.size], _, _, H1, rfl, I1.kept (t' := s1.toks) fun b o e => Heap.get?_push_of_some _ e, turn_tuple a _, ⟨_, Heap.get?_push_size _ rfl, rfl, rfl⟩, fun b hb => ?_, q⟩
    have e : b = s1.heap.objs.size := by simpa using hb
    subst e
    exact I1.fpOk (Nat.le_refl _) (I1.hok.fresh (Nat.le_refl _))
  · obtain ⟨t, rfl⟩ := r1
    cases ha : x.cps.all (· < 128)
    · exact wpAny_pyIter_wide ha (pi_one (tk := s1.toks) I1 _ (turn_str _ x t "str_iterator" (.inr rfl)) ⟨_, Heap.get?_push_size _ rfl, rfl, rfl⟩ q)
    · exact wpAny_pyIter_ascii ha (pi_one (tk := s1.toks) I1 _ (turn_str _ x t "str_ascii_iterator" (.inl rfl)) ⟨_, Heap.get?_push_size _ rfl, rfl, rfl⟩ q)
theorem itAny_rel {ι : List Addr} {H : Hp} {M : Mem} {d : D} {v : V} {it : MI} (hm : RelM K ι H M) (r : RelD K ι H d v) (h : itAny M d = some it) {R : It → Hp → Prop} (k : ∀ J, ItR K ι H J it → R J H) :
    (∃ a, v = .ref a ∧ (∃ xs, SqL K H a xs) ∧ R (Itl K a) H) ∨ (∃ a, v = .ref a ∧ (∃ xs, SqT K H a xs) ∧ R (Itt K a) H) ∨ ∃ z, v = .str z ∧ R (Its z) H := by
  cases r with
  | tup h1 r1 => cases h; exact .inr (.inl ⟨_, rfl, ⟨_, h1⟩, k _ (itR_tup h1 r1)⟩)
  | str x => cases h; exact .inr (.inr ⟨x, rfl, k _ itR_str⟩)
  | @obj i a hi =>
    simp only [itAny] at h
    split at h
    · rename_i xs e; cases h
      obtain ⟨p, hp, vs, e1, e2⟩ := hm.at e
      rw [hi] at hp; cases hp
      exact .inl ⟨a, rfl, ⟨vs, .of e1⟩, k _ (itR_lst hi e)⟩
    · cases h
  | rol h1 r1 => cases h; exact .inl ⟨_, rfl, ⟨_, h1.sq⟩, k _ (itR_rol h1 r1)⟩
  | non => cases h
  | bl _ => cases h
  | int _ => cases h
  | ty _ => cases h
def mIter (m : mE) : mI := fun δ M => (m δ M).bind fun r => (itAny r.2 r.1).map fun it => (it, r.2)
theorem mi_any (he : PE X e (tM X.K me)) : PI X tg e (tMI X.K (mIter me)) := PI.imp (pi_any he) fun σ H R ⟨ι, δ, M, it, M', hs, hm, he, k⟩ => by
  unfold mIter at he
  cases e1 : me δ M with
  | none => rw [e1] at he; cases he
  | some r =>
    rw [e1] at he
    have he : (itAny r.2 r.1).map (fun it => (it, r.2)) = some (it, M') := he
    cases e2 : itAny r.2 r.1 with
    | none => rw [e2] at he; cases he
    | some it' =>
      rw [e2] at he; cases he
      exact ⟨ι, δ, M, r.1, r.2, hs, hm, e1, fun ι1 H1 v l1 m1 r1 => itAny_rel m1 r1 e2 fun J hJ => k ι1 H1 J l1 m1 hJ⟩
def okR (j : Int) : Bool := decide (-2 ^ 62 ≤ j) && decide (j < 2 ^ 62)
def rngI (lo hi : Int) : MI := ⟨(List.range (hi - lo).toNat).map fun k : Nat => D.int (lo + k), []⟩
def mRng1 (m : mA) : mI := fun δ M => match m δ M with
  | some ([.int j], M') => if okR j = true then some (rngI 0 j, M') else none
  | _ => none
def mRng2 (m : mA) : mI := fun δ M => match m δ M with
  | some ([.int i, .int j], M') => if okR i = true ∧ okR j = true then some (rngI i j, M') else none
  | _ => none
theorem mi_rng1 {p : Pos} (h : PI X tg (.Call (.Name "range" p) [a] [] pos) (iRng1 (tMA X.K mr))) : PI X tg (.Call (.Name "range" p) [a] [] pos) (tMI X.K (mRng1 mr)) := PI.imp h fun σ H R ⟨ι, δ, M, it, M', hs, hm, he, k⟩ => by
  unfold mRng1 at he
  split at he
  · rename_i j M1 e1; split at he
    · rename_i hj; cases he
      unfold okR at hj
      simp only [Bool.and_eq_true, decide_eq_true_eq] at hj
      refine ⟨ι, δ, M, _, _, hs, hm, e1, fun ι1 H1 v l1 m1 r1 => ?_⟩
      cases r1 with
      | cons r1 r2 =>
        cases r2; cases r1
        refine ⟨j, rfl, hj.1, hj.2, k ι1 H1 _ l1 m1 ?_⟩
        have := itR_rng (K := X.K) (ι := ι1) (H := H1) (lo := 0) (n := j.toNat)
        unfold rngI
        rw [Int.sub_zero]
        exact this
    · cases he
  · cases he
theorem mi_rng2 {p : Pos} (h : PI X tg (.Call (.Name "range" p) [a, b] [] pos) (iRng2 (tMA X.K mr))) : PI X tg (.Call (.Name "range" p) [a, b] [] pos) (tMI X.K (mRng2 mr)) := PI.imp h fun σ H R ⟨ι, δ, M, it, M', hs, hm, he, k⟩ => by
  unfold mRng2 at he
  split at he
  · rename_i i j M1 e1; split at he
    · rename_i hj; cases he
      unfold okR at hj
      simp only [Bool.and_eq_true, decide_eq_true_eq] at hj
      refine ⟨ι, δ, M, _, _, hs, hm, e1, fun ι1 H1 v l1 m1 r1 => ?_⟩
      cases r1 with
      | cons r1 r2 =>
        cases r2 with
        | cons r2 r3 =>
          cases r3; cases r1; cases r2
          exact ⟨i, j, rfl, ⟨hj.1.1, hj.1.2, hj.2.1, hj.2.2⟩, k ι1 H1 _ l1 m1 itR_rng⟩
    · cases he
  · cases he

/-! ### comprehensions, as terms -/
theorem me_lc {elt iter : Expr} {ifs : List Expr} {scope : Scope} {own : List (Str × Nat)} {mi : mI} {g : mG} {tt : mT} {te : mE} (hc : X.calm = true) (hN : X.N.Nodup) (hi : PI X tg iter (tMI X.K mi)) (ok : BlkOk X.N X.env.scope scope own)
    (hg : ∀ (s : Shared) (H : Hp) (C : Addr) (cl : List (Str × Addr)) (fp : List Addr), PG (X.blk s H scope (compEnvC scope cl C X.env) fp) tg (tMG X.K g (own.map (·.2)))) (ht : ∀ (s : Shared) (H : Hp) (C : Addr) (cl : List (Str × Addr)) (fp : List Addr), PTs (X.blk s H scope (compEnvC scope cl C X.env) fp) ifs (tMT X.K tt))
    (he : ∀ (s : Shared) (H : Hp) (C : Addr) (cl : List (Str × Addr)) (fp : List Addr), PE (X.blk s H scope (compEnvC scope cl C X.env) fp) elt (tM X.K te)) (hs : ∀ x, foldedSetIterable iter X.env x = pure x := by intro _; rfl) :
    PE X (.ListComp elt [⟨tg, iter, ifs, 0⟩] scope pos) (tM X.K (mLc mi g tt te (own.map (·.2)))) := PE.imp (pe_lc hc hN hi ok hg ht he hs) fun σ H Q h => lc_imp h
theorem ms_setLc {i : Nat} {y : Str} {py : Pos} {elt iter : Expr} {ifs : List Expr} {scope : Scope} {own : List (Str × Nat)} {spos : Pos} {mi : mI} {g : mG} {tt : mT} {te : mE} (hc : X.calm = true) (hN : X.N.Nodup) (hy : X.N[i]? = some y) (hyl : X.env.scope.names.lookup y = some .local)
    (hsw : swapsWith (.ListComp elt [⟨tg, iter, ifs, 0⟩] scope pos) (some (.Name y py)) spos.line X.env = pure true) (hi : PI X tg iter (tMI X.K mi)) (ok : BlkOk X.N X.env.scope scope own)
    (hg : ∀ (s : Shared) (H : Hp) (C : Addr) (cl : List (Str × Addr)) (fp : List Addr), PG (X.blk s H scope (compEnvC scope cl C X.env) fp) tg (tMG X.K g (own.map (·.2)))) (ht : ∀ (s : Shared) (H : Hp) (C : Addr) (cl : List (Str × Addr)) (fp : List Addr), PTs (X.blk s H scope (compEnvC scope cl C X.env) fp) ifs (tMT X.K tt))
    (he : ∀ (s : Shared) (H : Hp) (C : Addr) (cl : List (Str × Addr)) (fp : List Addr), PE (X.blk s H scope (compEnvC scope cl C X.env) fp) elt (tM X.K te)) (hs : ∀ x, foldedSetIterable iter X.env x = pure x := by intro _; rfl) :
    PS X (.Assign [.Name y py] (.ListComp elt [⟨tg, iter, ifs, 0⟩] scope pos) spos) (tMS X.K (mAsg i (mLc mi g tt te (own.map (·.2))))) :=
  PS.imp (ps_setLc hc hN hy hyl hsw hi ok hg ht he hs) fun E σ H h => by
    obtain ⟨ι, δ, M, f, M', hs, hm, he, k⟩ := h
    refine lc_imp (Q := fun x H1 => gName i x σ H1 E.nx) ?_
    unfold mAsg mAsgG at he
    cases e1 : mLc mi g tt te (own.map (·.2)) δ M with
    | none => rw [e1] at he; cases he
    | some r =>
      rw [e1] at he
      cases he
      exact ⟨ι, δ, M, r.1, r.2, hs, hm, e1, fun ι1 H1 v l1 hm1 r1 => k ι1 H1 l1 hm1 _ ((hs.mono l1).set r1 i)⟩
theorem mts_nil : PTs X [] (tMT X.K mYes) := fun pins s σ H Q I ⟨ι, δ, M, b, M', hs, hm, he, k⟩ => by
  cases he
  exact pts_nil pins s σ H Q I (k ι H .refl hm)
theorem mts_one (h : PT X c (tMT X.K ta)) : PTs X [c] (tMT X.K ta) := pts_one h

/-! ### a def's promise -/
def spM (K : PySem.W.Frag) (n : Nat) (m : List D → Mem → Option (D × Mem)) : Sp := fun vs H Q _ => ∃ ι ds M d M', ds.length = n ∧ RelDs K ι H ds vs ∧ RelM K ι H M ∧ m ds M = some (d, M') ∧ Got K ι H M' d Q
def fnM (n : Nat) (ms : mS) (ds : List D) (M : Mem) : Option (D × Mem) := match ms (ds.map some ++ List.replicate (n - ds.length) none) M with
  | some (.rt d, M') => some (d, M')
  | some (.nx _, M') => some (.non, M')
  | _ => none
theorem start_rel {ι : List Addr} {H : Hp} {N : List Str} {ds : List D} {vs : List V} (r : RelDs K ι H ds vs) : RelS K ι H (ds.map some ++ List.replicate (N.length - ds.length) none) (L2.start N vs) := by
  unfold L2.start
  have hl := r.length
  refine ⟨by simp [hl], fun i d e => ?_⟩
  by_cases hi : i < ds.length
  · rw [List.getElem?_append_left (by simpa using hi), List.getElem?_map] at e
    cases e1 : ds[i]? with
    | none => rw [e1] at e; cases e
    | some d' =>
      rw [e1] at e
      cases e
      obtain ⟨v, ev, rv⟩ := r.get e1
      exact ⟨v, by rw [List.getElem?_append_left (by simpa [← hl] using hi), List.getElem?_map, ev]; rfl, rv⟩
  · rw [List.getElem?_append_right (by simpa using hi), List.getElem?_replicate] at e
    split at e <;> cases e
section
variable {P : Program} {w : World} {mg : Str → Option Value} {base : Heap}
theorem fn_ok {x qual : Str} {sf : Stmt} {f : Addr} {fd : FuncData} {N ps : List Str} {k : Nat} {ms : mS} (F : Fun K x qual sf f fd) (S : FnScope N ps (defScope sf))
    (hb : ∀ (cdv : Value) (A : Around) (outer : List Env) (s : Shared) (H : Hp) (E : XK), Room k (A.deeper (PyProof.Rows.envOfC qual (defScope sf) s.heap.objs.size f cdv)) →
      PSs (cxOf CX0 P w K mg base N qual (defScope sf) f cdv A outer s H E).nox (defBody sf) (tMS K ms)) : FnOk P w K mg base CX0 (k + 1) f fd ps (spM K ps.length (fnM N.length ms)) := by
  refine F.ok S (fun vs H Q E ⟨ι, ds, M, d, M', hn, r, _⟩ => by rw [← r.length]; exact hn) fun cdv A outer s H vs Q E hr h => ⟨_, hb cdv A outer s H E hr, ?_⟩
  obtain ⟨ι, ds, M, d, M', hn, r, hm, he, k⟩ := h
  unfold fnM at he
  split at he
  · rename_i d' M1 e1; cases he
    exact ⟨ι, _, M, _, _, start_rel r, hm, e1, fun ι1 H1 l1 m1 v r1 => k ι1 H1 v l1 m1 r1⟩
  · rename_i δ' M1 e1; cases he
    exact ⟨ι, _, M, _, _, start_rel r, hm, e1, fun ι1 H1 l1 m1 σ' _ => k ι1 H1 .non l1 m1 .non⟩
  · cases he
end
/-! ### calls -/
def mCall (f : List D → Mem → Option (D × Mem)) (m : mA) : mE := fun δ M => (m δ M).bind fun r => f r.1 r.2
theorem call_imp {n : Nat} {f : List D → Mem → Option (D × Mem)} {E : XK} {σ H Q} (hl : ∀ δ M r, mr δ M = some r → r.1.length = n) (h : tM X.K (mCall f mr) σ H Q) : tCall (spM X.K n f) [] E (tMA X.K mr) σ H Q := by
  obtain ⟨ι, δ, M, d, M', hs, hm, he, k⟩ := h
  unfold mCall at he
  cases e1 : mr δ M with
  | none => rw [e1] at he; cases he
  | some r =>
    rw [e1] at he
    exact ⟨ι, δ, M, r.1, r.2, hs, hm, e1, fun ι1 H1 vs l1 m1 r1 => ⟨ι1, r.1, r.2, d, M', hl _ _ _ e1, by rw [List.append_nil]; exact r1, m1, he, fun ι2 H2 v l2 m2 r2 => k ι2 H2 v (l1.trans l2) m2 r2⟩⟩
theorem len_nil {δ : DSt} {M : Mem} {r : List D × Mem} (h : mNil δ M = some r) : r.1.length = 0 := by cases h; rfl
theorem len_cons {n : Nat} (hr : ∀ δ M r, mr δ M = some r → r.1.length = n) : ∀ (δ : DSt) (M : Mem) (r : List D × Mem), mCons me mr δ M = some r → r.1.length = n + 1 := by
  intro δ M r h
  unfold mCons at h
  cases e1 : me δ M with
  | none => rw [e1] at h; cases h
  | some x =>
    rw [e1] at h
    have h : (mr δ x.2).map (fun y => (x.1 :: y.1, y.2)) = some r := h
    cases e2 : mr δ x.2 with
    | none => rw [e2] at h; cases h
    | some y => rw [e2] at h; cases h; simp [hr _ _ _ e2]
theorem me_call {k n : Nat} {f : Addr} {fd : FuncData} {ps : List Str} {ff : List D → Mem → Option (D × Mem)} {x : Str} {p : Pos} (F : FnOk X.prog X.w X.K X.mg X.base CX0 k f fd ps (spM X.K n ff)) (hr : Room k X.A) (hg : Gl X x) (hm : X.mg x = some (.ref f))
    (hk : PySem.W.keepIn X.K (.ref f) = true) (hb : Binds X.K fd ps []) (ha : PA X (e :: es) (tMA X.K mr)) (hl : ∀ δ M r, mr δ M = some r → r.1.length = n)
    (hdb : (x == ("__debug__" : Str)) = false := by decide) (he : starEach (e :: es) X.env = (false, eval e X.env) :: starEach es X.env := by rfl) (hpl : (backTo pos (starEach es X.env)).any (·.1) = false := by rfl) :
    PE X (.Call (.Name x p) (e :: es) [] pos) (tM X.K (mCall ff mr)) := PE.imp (pe_call (E := E0) (dvs := []) F hr hg hm hk hb .nil pass0 ha hdb he hpl) fun σ H Q h => call_imp hl h
end Mir

set_option Elab.async false
set_option linter.all false
set_option maxRecDepth 100000
set_option maxHeartbeats 4000000
namespace Mir
open PySem PySem.Spec L2
variable {X : Cx} {a b c e o tg : Expr} {es rest : List Expr} {pos : Pos} {ma mb mc me mo : mE} {K : PySem.W.Frag} {ta tb : mT} {mr : mA} {st : Stmt} {sts : List Stmt} {m1 m2 : mS}

/-! ### slices -/
abbrev mO := DSt → Mem → Option (Option Int × Mem)
def tMO (K : PySem.W.Frag) (m : mO) : TO := fun σ H Q => ∃ ι δ M o M', RelS K ι H δ σ ∧ RelM K ι H M ∧ m δ M = some (o, M') ∧ ∀ ι' H', Le K ι H ι' H' → RelM K ι' H' M' → Q o H'
def mNoP : mO := fun _ M => some (none, M)
def mPart (m : mE) : mO := fun δ M => match m δ M with
  | some (.int i, M') => some (some i, M')
  | _ => none
theorem PO.imp {eo : Option Expr} {t t' : TO} (h : PO X eo t) (f : ∀ σ H Q, t' σ H Q → t σ H Q) : PO X eo t' := fun pins s σ H Q I q => h pins s σ H Q I (f _ _ _ q)
theorem mo_none : PO X none (tMO X.K mNoP) := PO.imp po_none fun σ H Q ⟨ι, δ, M, o, M', hs, hm, he, k⟩ => by cases he; exact k ι H .refl hm
theorem mo_some (he : PE X e (tM X.K me)) : PO X (some e) (tMO X.K (mPart me)) := PO.imp (po_some he) fun σ H Q ⟨ι, δ, M, o, M', hs, hm, he, k⟩ => by
  unfold mPart at he
  split at he
  · rename_i i M1 e1; cases he
    refine ⟨ι, δ, M, _, _, hs, hm, e1, fun ι1 H1 v l1 m1 r1 => ?_⟩
    cases r1
    exact ⟨i, rfl, k ι1 H1 l1 m1⟩
  · cases he
def cutD (xs : List D) (lo hi : Option Int) : List D := (xs.drop (HT.sIx xs.length 0 lo)).take (HT.sIx xs.length xs.length hi - HT.sIx xs.length 0 lo)
theorem cut_rel {ι : List Addr} {H : Hp} {xs : List D} {vs : List V} (r : RelDs K ι H xs vs) (lo hi : Option Int) : RelDs K ι H (cutD xs lo hi) (cutV vs lo hi) := by
  unfold cutD cutV
  rw [r.length]
  exact (r.drop _).take _
def slD (x : D) (lo hi : Option Int) (M : Mem) : Option (D × Mem) := match x with
  | .str z => if z.length ≤ sizeLine then some (.str (cutS z lo hi), M) else none
  | .tup xs => if HT.sIx xs.length 0 lo = 0 ∧ HT.sIx xs.length xs.length hi = xs.length then none else some (.tup (cutD xs lo hi), M)
  | x => match asList M x with
    | some xs => some (.obj M.length, M ++ [.lst (cutD xs lo hi)])
    | none => none
def rSlA (K : PySem.W.Frag) : V → Option Int → Option Int → Hp → VK → Prop := fun x lo hi H Q => rSlL K x lo hi H Q ∨ rSlT K x lo hi H Q ∨ rSlS x lo hi H Q
theorem SlR.or {r r' : V → Option Int → Option Int → Hp → VK → Prop} (h : SlR X r) (h' : SlR X r') : SlR X (fun x lo hi H Q => r x lo hi H Q ∨ r' x lo hi H Q) := by
  intro pins s σ H x v vl vu lo hi sl Q I rx hs p1 p2 q
  rcases q with q | q
  · exact h pins s σ H x v vl vu lo hi sl Q I rx hs p1 p2 q
  · exact h' pins s σ H x v vl vu lo hi sl Q I rx hs p1 p2 q
theorem sl_any : SlR X (rSlA X.K) := SlR.or sl_list (SlR.or sl_tup sl_str)
def mSl (me : mE) (ml mh : mO) : mE := fun δ M => (me δ M).bind fun r => (ml δ r.2).bind fun q => (mh δ q.2).bind fun z => slD r.1 q.1 z.1 z.2
theorem me_slice {lo hi : Option Expr} {ml mh : mO} {p2 : Pos} (he : PE X e (tM X.K me)) (hl : PO X lo (tMO X.K ml)) (hh : PO X hi (tMO X.K mh)) : PE X (.Subscript e (.Slice lo hi none p2) pos) (tM X.K (mSl me ml mh)) :=
  PE.imp (pe_slice sl_any he hl hh) fun σ H Q ⟨ι, δ, M, d, M', hs, hm, he, k⟩ => by
    unfold mSl at he
    cases e1 : me δ M with
    | none => rw [e1] at he; cases he
    | some r =>
      rw [e1] at he
      cases e2 : ml δ r.2 with
      | none => simp only [e2, Option.bind_some, Option.bind_none] at he; cases he
      | some q =>
        cases e3 : mh δ q.2 with
        | none => simp only [e2, e3, Option.bind_some, Option.bind_none] at he; cases he
        | some z =>
          simp only [e2, e3, Option.bind_some] at he
          refine ⟨ι, δ, M, r.1, r.2, hs, hm, e1, fun ι1 H1 v l1 m1 r1 => ⟨ι1, δ, r.2, q.1, q.2, hs.mono l1, m1, e2, fun ι2 H2 l2 m2 => ⟨ι2, δ, q.2, z.1, z.2, hs.mono (l1.trans l2), m2, e3, fun ι3 H3 l3 m3 => ?_⟩⟩⟩
          have r1 := r1.mono (l2.trans l3).lo
          have l13 := (l1.trans l2).trans l3
          have k : Got X.K ι3 H3 M' d Q := fun ι4 H4 v l4 m4 r4 => k ι4 H4 v (l13.trans l4) m4 r4
          have lists : ∀ xs, asList z.2 r.1 = some xs → some (D.obj z.2.length, z.2 ++ [MO.lst (cutD xs q.1 z.1)]) = some (d, M') → rSlA X.K v q.1 z.1 H3 Q := fun xs ex e => by
            cases e
            obtain ⟨p, vs, rfl, h1, r2⟩ := asList_rel m3 ex r1
            exact .inl ⟨p, vs, rfl, h1, got_lst m3 (cut_rel r2 _ _) k⟩
          unfold slD at he
          split at he
          · rename_i y ey; split at he
            · rename_i hz; cases he
              rw [ey] at r1
              cases r1
              exact .inr (.inr ⟨y, rfl, hz, k ι3 H3 _ .refl m3 (.str _)⟩)
            · cases he
          · rename_i xs ey; split at he
            · cases he
            · rename_i hz; cases he
              rw [ey] at r1
              cases r1 with
              | @tup p _ vs h1 r2 =>
                have hlen := r2.length
                refine .inr (.inl ⟨_, _, rfl, h1, ?_, got_tup m3 (cut_rel r2 _ _) k⟩)
                rw [← hlen]
                exact hz
          · split at he
            · rename_i xs ex; exact lists xs ex he
            · cases he

/-! ### {k: v, ..} -/
abbrev mP := DSt → Mem → Option (List (Key × D) × Mem)
def Pairs (K : PySem.W.Frag) (p : Addr) (trs : List (TE × TE)) (m : mP) : Prop := ∀ σ H (Q : List (V × V) → Hp → Prop), (∃ ι δ M r M', RelS K ι H δ σ ∧ RelM K ι H M ∧ p ∉ ι ∧ H p = some (.dK []) ∧ m δ M = some (r, M') ∧
  ∀ ι' H' vs, Le K ι H ι' H' → RelM K ι' H' M' → RelKs K ι' H' r vs → Q (vs.map fun kv => (kV kv.1, kv.2)) H') → tPairs trs σ H Q
/-- {} -/
def mDNew : mE := fun _ M => some (.obj M.length, M ++ [.dic []])
/-! ### o[i] = v -/
def setI (x y v : D) (M : Mem) : Option Mem := match asLst M x with
  | some (i, xs) => match y with
    | .int k => (ixN xs.length k).map fun j => M.set i (.lst (xs.set j v))
    | _ => none
  | none => match asDic M x with
    | some (i, kvs) => (keyD y).bind fun key => if kvs.length < sizeLine then some (M.set i (.dic (putD kvs key v))) else none
    | none => none
def rSetA : TSet := fun o i v H Q => rSetL o i v H Q ∨ ∃ a H', o = .ref a ∧ DPut H a i v H' ∧ Q H'
theorem set_any (hu : X.A.units + 1 < cLine) : PSet X rSetA := by
  intro pins s σ H o i v ov iv u Q I ro ri rv h
  rcases h with h | ⟨p, H', rfl, g, q⟩
  · exact set_list pins s σ H o i v ov iv u Q I ro ri rv h
  · cases ro
    exact d_setItem hu I g ri rv fun s' I' => ⟨H', I', q⟩
theorem setI_rel {ι : List Addr} {H : Hp} {M M' : Mem} {x y d : D} {vx vy v : V} {Q : Hp → Prop} (hm : RelM K ι H M) (rx : RelD K ι H x vx) (ry : RelD K ι H y vy) (rv : RelD K ι H d v) (h : setI x y d M = some M')
    (k : ∀ H', Le K ι H ι H' → RelM K ι H' M' → Q H') : rSetA vx vy v H Q := by
  unfold setI at h
  split at h
  · rename_i i xs e
    split at h
    · rename_i j
      cases e1 : ixN xs.length j with
      | none => rw [e1] at h; cases h
      | some n =>
        rw [e1] at h; cases h
        obtain ⟨_, _, p, vs, rfl, hi, h1, r1⟩ := asLst_rel hm e rx
        cases ry
        refine .inl ⟨p, vs, j, n, rfl, rfl, h1, by rw [← r1.length]; exact e1, k _ (le_upd (List.mem_of_getElem? hi) h1 trivial) (hm.set hi h1 trivial ⟨_, upd_same, ((r1.set rv n).mono (le_upd (List.mem_of_getElem? hi) h1 trivial).lo)⟩)⟩
    · cases h
  · split at h
    · rename_i i kvs e
      cases e1 : keyD y with
      | none => rw [e1] at h; cases h
      | some key =>
        rw [e1] at h
        have h : (if kvs.length < sizeLine then some (M.set i (.dic (putD kvs key d))) else none) = some M' := h
        split at h
        · rename_i hz; cases h
          obtain ⟨_, _, p, vs, rfl, hi, h1, r1⟩ := asDic_rel hm e rx
          refine .inr ⟨p, _, rfl, .inl ⟨vs, key, h1, keyD_rel e1 ry, by rw [← r1.length]; exact hz, rfl⟩, k _ (le_upd (List.mem_of_getElem? hi) h1 trivial) (hm.set hi h1 trivial ⟨_, upd_same, ((r1.put key rv).mono (le_upd (List.mem_of_getElem? hi) h1 trivial).lo)⟩)⟩
        · cases h
    · cases h
def mSet (mv mo mi : mE) : mS := fun δ M => (mv δ M).bind fun v => (mo δ v.2).bind fun x => (mi δ x.2).bind fun i => (setI x.1 i.1 v.1 i.2).map fun M' => (.nx δ, M')
theorem ms_sub {mv mi : mE} (h : PS X st (tAsg (tM X.K mv) (gSub (tM X.K mo) (tM X.K mi) rSetA))) : PS X st (tMS X.K (mSet mv mo mi)) := PS.imp h fun E σ H ⟨ι, δ, M, f, M', hs, hm, he, k⟩ => by
  unfold mSet at he
  cases e1 : mv δ M with
  | none => rw [e1] at he; cases he
  | some v =>
    cases e2 : mo δ v.2 with
    | none => simp only [e1, e2, Option.bind_some, Option.bind_none] at he; cases he
    | some x =>
      cases e3 : mi δ x.2 with
      | none => simp only [e1, e2, e3, Option.bind_some, Option.bind_none] at he; cases he
      | some z =>
        cases e4 : setI x.1 z.1 v.1 z.2 with
        | none => simp only [e1, e2, e3, e4, Option.bind_some, Option.map_none] at he; cases he
        | some M2 =>
          simp only [e1, e2, e3, e4, Option.bind_some, Option.map_some] at he
          cases he
          refine ⟨ι, δ, M, v.1, v.2, hs, hm, e1, fun ι1 H1 u l1 m1 r1 => ⟨ι1, δ, v.2, x.1, x.2, hs.mono l1, m1, e2, fun ι2 H2 u2 l2 m2 r2 => ⟨ι2, δ, x.2, z.1, z.2, hs.mono (l1.trans l2), m2, e3, fun ι3 H3 u3 l3 m3 r3 => ?_⟩⟩⟩
          have l13 := (l1.trans l2).trans l3
          exact setI_rel m3 (r2.mono l3) r3 (r1.mono (l2.trans l3)) e4 fun H' l4 m4 => k ι3 H' (l13.trans l4) m4 σ (hs.mono (l13.trans l4))

/-! ### built-in functions -/
def CallM (K : PySem.W.Frag) (r : List V → Hp → VK → Prop) (f : List D → Mem → Option (D × Mem)) : Prop :=
  ∀ ι H M ds vs d M' Q, RelM K ι H M → RelDs K ι H ds vs → f ds M = some (d, M') → Got K ι H M' d Q → r vs H Q
theorem callB_imp {r : List V → Hp → VK → Prop} {f : List D → Mem → Option (D × Mem)} (hf : CallM X.K r f) {σ H Q} (h : tM X.K (mCall f mr) σ H Q) : tCB r (tMA X.K mr) σ H Q := by
  obtain ⟨ι, δ, M, d, M', hs, hm, he, k⟩ := h
  unfold mCall at he
  cases e1 : mr δ M with
  | none => rw [e1] at he; cases he
  | some x =>
    rw [e1] at he
    exact ⟨ι, δ, M, x.1, x.2, hs, hm, e1, fun ι1 H1 vs l1 m1 r1 => hf ι1 H1 x.2 x.1 vs d M' Q m1 r1 he fun ι2 H2 v l2 m2 r2 => k ι2 H2 v (l1.trans l2) m2 r2⟩
theorem me_callB {id : String} {r : List V → Hp → VK → Prop} {f : List D → Mem → Option (D × Mem)} {x : Str} {p : Pos} (hc : CallR X (.builtin id) r) (hf : CallM X.K r f) (hg : Gl X x) (hm : X.mg x = none) (hv : bootBuiltins x = some (.builtin id)) (ha : PA X (e :: es) (tMA X.K mr))
    (hn : x ≠ "__name__" := by decide) (hdb : (x == ("__debug__" : Str)) = false := by decide) (he : starEach (e :: es) X.env = (false, eval e X.env) :: starEach es X.env := by rfl) (hpl : (backTo pos (starEach es X.env)).any (·.1) = false := by rfl) :
    PE X (.Call (.Name x p) (e :: es) [] pos) (tM X.K (mCall f mr)) := PE.imp (pe_callB hc hg hm hv ha hn hdb he hpl) fun _ _ _ h => callB_imp hf h
theorem me_callTy {T : String} {r : List V → Hp → VK → Prop} {f : List D → Mem → Option (D × Mem)} {x : Str} {p : Pos} (hc : CallR X (.type T) r) (hf : CallM X.K r f) (hg : Gl X x) (hm : X.mg x = none) (hv : bootBuiltins x = some (.type T)) (ha : PA X (e :: es) (tMA X.K mr))
    (hn : x ≠ "__name__" := by decide) (hdb : (x == ("__debug__" : Str)) = false := by decide) (he : starEach (e :: es) X.env = (false, eval e X.env) :: starEach es X.env := by rfl) (hpl : (backTo pos (starEach es X.env)).any (·.1) = false := by rfl) :
    PE X (.Call (.Name x p) (e :: es) [] pos) (tM X.K (mCall f mr)) := PE.imp (pe_callTy hc hg hm hv ha hn hdb he hpl) fun _ _ _ h => callB_imp hf h
theorem me_type {x : Str} {T : String} {p : Pos} (hg : Gl X x) (hm : X.mg x = none) (hv : bootBuiltins x = some (.type T)) (hn : x ≠ "__name__" := by decide) (hd : (x == ("__debug__" : Str)) = false := by decide) : PE X (.Name x p) (tM X.K (mC (.ty T))) :=
  me_of_C (v := .ty T) (fun _ _ => .ty T) (pe_bltn hg hm hv (show RelV (.ty T) (.type T) from rfl) hn hd)
theorem CallR.or {f : Value} {r r' : List V → Hp → VK → Prop} (h : CallR X f r) (h' : CallR X f r') : CallR X f (fun vs H Q => r vs H Q ∨ r' vs H Q) := by
  intro pins s σ H vs us Q I rv q
  rcases q with q | q
  · exact h pins s σ H vs us Q I rv q
  · exact h' pins s σ H vs us Q I rv q
/-- len -/
def fLen : List D → Mem → Option (D × Mem)
  | [.str z], M => if z.length ≤ sizeLine then some (.int z.length, M) else none
  | [d], M => match asSeq M d with
    | some xs => some (.int xs.length, M)
    | none => match asDic M d with
      | some (_, kvs) => some (.int kvs.length, M)
      | none => none
  | _, _ => none
theorem len_m : CallM K (fun vs H Q => (∃ x n, vs = [x] ∧ LenV K x H n ∧ Q (V.int ↑n) H) ∨ ∃ a kvs, vs = [V.ref a] ∧ H a = some (.dK kvs) ∧ Q (.int kvs.length) H) fLen := by
  intro ι H M ds vs d M' Q hm r hf k
  unfold fLen at hf
  split at hf
  · rename_i z; split at hf
    · rename_i hz; cases hf
      cases r with
      | cons r1 r2 => cases r2; cases r1; exact .inl ⟨_, z.length, rfl, ⟨hz, rfl⟩, k ι H _ .refl hm (.int _)⟩
    · cases hf
  · cases r with
    | cons r1 r2 =>
      cases r2
      split at hf
      · rename_i xs e; cases hf
        obtain ⟨p, vs, rfl, h1, r3⟩ := asSeq_rel hm e r1
        refine .inl ⟨_, xs.length, rfl, ?_, k ι H _ .refl hm (.int _)⟩
        rcases h1 with h1 | h1
        · exact .inl ⟨vs, h1, r3.length⟩
        · exact .inr ⟨vs, h1, r3.length⟩
      · split at hf
        · rename_i i kvs e; cases hf
          obtain ⟨_, _, p, vs, rfl, hi, h1, r3⟩ := asDic_rel hm e r1
          refine .inr ⟨p, vs, rfl, h1, k ι H _ .refl hm ?_⟩
          rw [r3.length]; exact .int _
        · cases hf
  · cases hf
theorem me_len {p : Pos} (hg : Gl X "len") (hm : X.mg "len" = none) (ha : PA X [e] (tMA X.K mr)) (he : starEach [e] X.env = (false, eval e X.env) :: starEach [] X.env := by rfl) : PE X (.Call (.Name "len" p) [e] [] pos) (tM X.K (mCall fLen mr)) :=
  me_callB (CallR.or call_len call_lenD) len_m hg hm PySem.boot_len ha (by decide) (by decide) he rfl
/-- list(x) -/
def fList : List D → Mem → Option (D × Mem)
  | [d], M => (asSeq M d).map fun xs => (.obj M.length, M ++ [.lst xs])
  | _, _ => none
theorem list_m : CallM K (fun xs H Q => ∃ p ys, xs = [.ref p] ∧ (SqL K H p ys ∨ SqT K H p ys) ∧ ∀ l, H l = none → Q (.ref l) (upd H l (.lst ys))) fList := by
  intro ι H M ds vs d M' Q hm r hf k
  unfold fList at hf
  split at hf
  · rename_i d0
    cases r with
    | cons r1 r2 =>
      cases r2
      cases e : asSeq M d0 with
      | none => rw [e] at hf; cases hf
      | some xs =>
        rw [e] at hf; cases hf
        obtain ⟨p, vs, rfl, h1, r3⟩ := asSeq_rel hm e r1
        exact ⟨p, vs, rfl, h1, got_lst hm r3 k⟩
  · cases hf
theorem boot_list : bootBuiltins "list" = some (.type "list") := by decide +kernel
theorem boot_tuple : bootBuiltins "tuple" = some (.type "tuple") := by decide +kernel
theorem boot_int : bootBuiltins "int" = some (.type "int") := by decide +kernel
theorem boot_bool : bootBuiltins "bool" = some (.type "bool") := by decide +kernel
theorem boot_sum : bootBuiltins "sum" = some (.builtin "sum") := by decide +kernel
theorem boot_isinst : bootBuiltins "isinstance" = some (.builtin "isinstance") := by decide +kernel
theorem boot_max : bootBuiltins "max" = some (.builtin "max") := by decide +kernel
theorem boot_min : bootBuiltins "min" = some (.builtin "min") := by decide +kernel
/-- tuple(x) -/
def fTuple : List D → Mem → Option (D × Mem)
  | [d], M => (asSeq M d).map fun xs => (.tup xs, M)
  | _, _ => none
theorem tuple_m : CallM K (fun xs H Q => ∃ p ys, xs = [.ref p] ∧ ((SqL K H p ys ∧ ∀ l, H l = none → Q (.ref l) (upd H l (.tup ys))) ∨ (SqT K H p ys ∧ Q (.ref p) H))) fTuple := by
  intro ι H M ds vs d M' Q hm r hf k
  unfold fTuple at hf
  split at hf
  · rename_i d0
    cases r with
    | cons r1 r2 =>
      cases r2
      cases e : asSeq M d0 with
      | none => rw [e] at hf; cases hf
      | some xs =>
        rw [e] at hf; cases hf
        obtain ⟨p, vs, rfl, h1, r3⟩ := asSeq_rel hm e r1
        rcases h1 with h1 | h1
        · exact ⟨p, vs, rfl, .inl ⟨h1, got_tup hm r3 k⟩⟩
        · exact ⟨p, vs, rfl, .inr ⟨h1, k ι H _ .refl hm (.tup h1 r3)⟩⟩
  · cases hf
/-- whole numbers of a list -/
def toInts : List D → Option (List Int)
  | [] => some []
  | .int i :: r => (toInts r).map fun q => i :: q
  | _ => none
theorem toInts_rel {ι : List Addr} {H : Hp} : ∀ {ds : List D} {vs : List V} {ns : List Int}, RelDs K ι H ds vs → toInts ds = some ns → vs = ns.map V.int
  | [], _, ns, r, e => by cases r; cases e; rfl
  | d :: r, _, ns, q, e => by
    cases q with
    | cons q1 q2 =>
      cases q1 <;> first
        | (simp only [toInts] at e
           cases e1 : toInts r with
           | none => rw [e1] at e; cases e
           | some l => rw [e1] at e; cases e; rw [toInts_rel q2 e1]; rfl)
        | cases e
def fSum : List D → Mem → Option (D × Mem)
  | [d], M => (asList M d).bind fun xs => (toInts xs).map fun ns => (.int ns.sum, M)
  | _, _ => none
theorem sum_m : CallM K (rSum K) fSum := by
  intro ι H M ds vs d M' Q hm r hf k
  unfold fSum at hf
  split at hf
  · rename_i d0
    cases r with
    | cons r1 r2 =>
      cases r2
      cases e : asList M d0 with
      | none => rw [e] at hf; cases hf
      | some xs =>
        rw [e] at hf
        have hf : (toInts xs).map (fun ns => (D.int ns.sum, M)) = some (d, M') := hf
        cases e1 : toInts xs with
        | none => rw [e1] at hf; cases hf
        | some ns =>
          rw [e1] at hf; cases hf
          obtain ⟨p, vs, rfl, h1, r3⟩ := asList_rel hm e r1
          have := toInts_rel r3 e1
          subst this
          exact ⟨p, ns, rfl, h1, k ι H _ .refl hm (.int _)⟩
  · cases hf
def fInt : List D → Mem → Option (D × Mem)
  | [.int i], M => some (.int i, M)
  | [.bl b], M => some (.int (if b then 1 else 0), M)
  | _, _ => none
theorem int_c : CallM K (fun xs H Q => (∃ i, xs = [.int i] ∧ Q (.int i) H) ∨ ∃ k, xs = [.bl k] ∧ Q (.int (if k then 1 else 0)) H) fInt := by
  intro ι H M ds vs d M' Q hm r hf k
  unfold fInt at hf
  split at hf
  · cases hf; cases r with | cons r1 r2 => cases r2; cases r1; exact .inl ⟨_, rfl, k ι H _ .refl hm (.int _)⟩
  · cases hf; cases r with | cons r1 r2 => cases r2; cases r1; exact .inr ⟨_, rfl, k ι H _ .refl hm (.int _)⟩
  · cases hf
/-- isinstance(x, T), T a built-in type -/
def tyD (M : Mem) : D → Option String
  | .non => some "NoneType"
  | .bl _ => some "bool"
  | .int _ => some "int"
  | .str _ => some "str"
  | .tup _ => some "tuple"
  | .obj i => match M[i]? with
    | some (.lst _) => some "list"
    | some (.dic _) => some "dict"
    | _ => none
  | _ => none
/-- the answers that are served -/
def isiB (t c : String) : Option Bool :=
  if t = c then some true
  else if t = "bool" ∧ c = "int" then some true
  else if ["NoneType", "bool", "int", "str", "tuple", "list", "dict"].contains t = true ∧ ["bool", "int", "str", "tuple", "list", "dict"].contains c = true then some false else none
theorem isi_kit (K : PySem.W.Frag) {t c : String} {b : Bool} (h : isiB t c = some b) : PySem.W.kitOne K (.type t) (.type c) = some b := by
  unfold isiB at h
  split at h
  · rename_i e; subst e; cases h
    unfold PySem.W.kitOne
    rw [if_pos (by simp)]
  · rename_i ne
    split at h
    · rename_i e; obtain ⟨rfl, rfl⟩ := e; cases h; rfl
    · rename_i nb
      split at h
      · rename_i e; cases h
        obtain ⟨e1, e2⟩ := e
        simp only [List.contains_eq_mem, List.mem_cons, List.not_mem_nil, or_false, decide_eq_true_eq] at e1 e2
        rcases e1 with rfl | rfl | rfl | rfl | rfl | rfl | rfl <;> rcases e2 with rfl | rfl | rfl | rfl | rfl | rfl <;> first
          | exact absurd rfl ne
          | exact absurd ⟨rfl, rfl⟩ nb
          | rfl
      · cases h
def TyV (K : PySem.W.Frag) (H : Hp) (v : V) (t : String) : Prop := match v with
  | .non => t = "NoneType"
  | .bl _ => t = "bool"
  | .int _ => t = "int"
  | .str _ => t = "str"
  | .ref a => (t = "tuple" ∧ ∃ xs, SqT K H a xs) ∨ (t = "list" ∧ ∃ xs, SqL K H a xs) ∨ (t = "dict" ∧ ∃ kvs, Rd H a (.dK kvs))
  | _ => False
theorem call_isi : CallR X (.builtin "isinstance") (fun vs H Q => ∃ x t c b, vs = [x, .ty c] ∧ TyV X.K H x t ∧ isiB t c = some b ∧ Q (.bl b) H) := by
  intro pins s σ H vs us Q I r h
  obtain ⟨x, t, c, b, rfl, ht, hb, q⟩ := h
  have e := isi_kit X.K hb
  cases r with
  | cons rx r2 =>
    cases r2 with
    | cons rc r3 =>
      cases r3
      cases rc
      have fin : ∀ tk, EP X pins σ Q (Value.bool b) { s with toks := tk } := fun tk => ⟨.bl b, H, I.tok _, rfl, q⟩
      cases x with
      | non => cases (show _ = Value.none from rx); cases (show t = "NoneType" from ht); exact PySem.W.kia_one PySem.W.kitx_none I.kIn True.intro e (fun z => nomatch z) fin
      | bl y => cases (show _ = Value.bool y from rx); cases (show t = "bool" from ht); exact PySem.W.kia_one PySem.W.kitx_bool I.kIn True.intro e (fun z => nomatch z) fin
      | int i => obtain ⟨u, q⟩ := (show ∃ u, _ = Value.int i u from rx); cases q; cases (show t = "int" from ht); exact PySem.W.kia_one PySem.W.kitx_int I.kIn True.intro e (fun z => nomatch z) fin
      | str y => obtain ⟨u, q⟩ := (show ∃ u, _ = Value.str y u from rx); cases q; cases (show t = "str" from ht); exact PySem.W.kia_one PySem.W.kitx_str I.kIn True.intro e (fun z => nomatch z) fin
      | ref a =>
        cases (show _ = Value.ref a from rx)
        rcases (show (t = "tuple" ∧ ∃ xs, SqT X.K H a xs) ∨ (t = "list" ∧ ∃ xs, SqL X.K H a xs) ∨ (t = "dict" ∧ ∃ kvs, Rd H a (.dK kvs)) from ht) with ⟨rfl, xs, hq⟩ | ⟨rfl, xs, hq⟩ | ⟨rfl, kvs, hq⟩
        · obtain ⟨its, _, ⟨o, h1, h2, _⟩, _⟩ := I.tuple hq
          exact PySem.W.kia_one PySem.W.kitx_tuple I.kIn ⟨o, h1, h2⟩ e (fun z => nomatch z) fin
        · obtain ⟨its, _, ⟨o, n, h1, h2, _⟩, _⟩ := I.list hq
          exact PySem.W.kia_one PySem.W.kitx_list I.kIn ⟨o, h1, h2⟩ e (fun z => nomatch z) fin
        · obtain ⟨_, _, vs, _, o, es, ep, h1, h2, _⟩ := hq.ok I.hok
          exact PySem.W.kia_one PySem.W.kitx_dict I.kIn ⟨o, h1, h2.1⟩ e (fun z => nomatch z) fin
      | byt _ => exact ht.elim
      | flt _ => exact ht.elim
      | ty _ => exact ht.elim
def fIsi : List D → Mem → Option (D × Mem)
  | [d, .ty c], M => (tyD M d).bind fun t => (isiB t c).map fun b => (.bl b, M)
  | _, _ => none
theorem isi_m : CallM K (fun vs H Q => ∃ x t c b, vs = [x, .ty c] ∧ TyV K H x t ∧ isiB t c = some b ∧ Q (.bl b) H) fIsi := by
  intro ι H M ds vs d M' Q hm r hf k
  unfold fIsi at hf
  split at hf
  · rename_i d0 c
    cases e : tyD M d0 with
    | none => rw [e] at hf; cases hf
    | some t =>
      rw [e] at hf
      have hf : (isiB t c).map (fun b => (D.bl b, M)) = some (d, M') := hf
      cases e1 : isiB t c with
      | none => rw [e1] at hf; cases hf
      | some b =>
        rw [e1] at hf; cases hf
        cases r with
        | cons r1 r2 =>
          cases r2 with
          | cons r3 r4 =>
            cases r4; cases r3
            refine ⟨_, t, c, b, rfl, ?_, e1, k ι H _ .refl hm (.bl _)⟩
            cases r1 with
            | non => cases e; rfl
            | bl _ => cases e; rfl
            | int _ => cases e; rfl
            | str _ => cases e; rfl
            | tup h1 _ => cases e; exact .inl ⟨rfl, _, h1⟩
            | ty _ => cases e
            | rol _ _ => cases e
            | @obj i a hi =>
              simp only [tyD] at e
              split at e
              · rename_i xs e2; cases e
                obtain ⟨p, hp, vs, q1, q2⟩ := hm.at e2
                rw [hi] at hp; cases hp
                exact .inr (.inl ⟨rfl, vs, .of q1⟩)
              · rename_i xs e2; cases e
                obtain ⟨p, hp, vs, q1, q2⟩ := hm.at e2
                rw [hi] at hp; cases hp
                exact .inr (.inr ⟨rfl, vs, .of q1⟩)
              · cases e
  · cases hf

/-! ### methods of lists -/
def MtMM (K : PySem.W.Frag) (r : V → List V → Hp → VK → Prop) (f : D → List D → Mem → Option (D × Mem)) : Prop :=
  ∀ ι H M x ds vx vs d M' Q, RelM K ι H M → RelD K ι H x vx → RelDs K ι H ds vs → f x ds M = some (d, M') → Got K ι H M' d Q → r vx vs H Q
/-- the receiver's type is told by the memory -/
def ListAt (M : Mem) (d : D) : Prop := ∃ xs, asList M d = some xs
open Classical in
noncomputable def mMethL (f : D → List D → Mem → Option (D × Mem)) (mo : mE) (m : mA) : mE := fun δ M => (mo δ M).bind fun x => if ListAt x.2 x.1 then (m δ x.2).bind fun r => f x.1 r.1 r.2 else none
theorem me_methL {name : Str} {apos cpos : Pos} {id : String} {r : V → List V → Hp → VK → Prop} {f : D → List D → Mem → Option (D × Mem)} (hf : MtMM X.K r f)
    (h : PE X (.Call (.Attribute o name apos) (e :: es) [] cpos) (tBM X.K "list" r (tM X.K mo) (tMA X.K mr))) : PE X (.Call (.Attribute o name apos) (e :: es) [] cpos) (tM X.K (mMethL f mo mr)) :=
  PE.imp h fun σ H Q ⟨ι, δ, M, d, M', hs, hm, he, k⟩ => by
    unfold mMethL at he
    cases e1 : mo δ M with
    | none => rw [e1] at he; cases he
    | some x =>
      rw [e1] at he
      simp only [Option.bind_some] at he
      split at he
      · rename_i hl
        cases e2 : mr δ x.2 with
        | none => rw [e2] at he; cases he
        | some r0 =>
          rw [e2] at he
          refine ⟨ι, δ, M, x.1, x.2, hs, hm, e1, fun ι1 H1 v l1 m1 r1 => ⟨?_, ι1, δ, x.2, r0.1, r0.2, hs.mono l1, m1, e2, fun ι2 H2 vs l2 m2 r2 => hf ι2 H2 r0.2 x.1 r0.1 v vs d M' Q m2 (r1.mono l2) r2 he fun ι3 H3 v l3 m3 r3 => k ι3 H3 v ((l1.trans l2).trans l3) m3 r3⟩⟩
          obtain ⟨xs, ex⟩ := hl
          obtain ⟨p, vs, rfl, h1, _⟩ := asList_rel m1 ex r1
          exact .inl ⟨rfl, vs, h1⟩
      · cases he
theorem me_methL0 {name : Str} {apos cpos : Pos} {r : V → List V → Hp → VK → Prop} {f : D → List D → Mem → Option (D × Mem)} (hf : MtMM X.K r f)
    (h : PE X (.Call (.Attribute o name apos) [] [] cpos) (tBM0 X.K "list" r (tM X.K mo))) : PE X (.Call (.Attribute o name apos) [] [] cpos) (tM X.K (mMethL f mo mNil)) :=
  PE.imp h fun σ H Q ⟨ι, δ, M, d, M', hs, hm, he, k⟩ => by
    unfold mMethL at he
    cases e1 : mo δ M with
    | none => rw [e1] at he; cases he
    | some x =>
      rw [e1] at he
      simp only [Option.bind_some] at he
      split at he
      · rename_i hl
        have he : f x.1 [] x.2 = some (d, M') := he
        refine ⟨ι, δ, M, x.1, x.2, hs, hm, e1, fun ι1 H1 v l1 m1 r1 => ⟨?_, hf ι1 H1 x.2 x.1 [] v [] d M' Q m1 r1 .nil he fun ι3 H3 v l3 m3 r3 => k ι3 H3 v (l1.trans l3) m3 r3⟩⟩
        obtain ⟨xs, ex⟩ := hl
        obtain ⟨p, vs, rfl, h1, _⟩ := asList_rel m1 ex r1
        exact .inl ⟨rfl, vs, h1⟩
      · cases he
def fAppend (x : D) (ds : List D) (M : Mem) : Option (D × Mem) := match ds with
  | [d] => (asLst M x).bind fun p => if p.2.length < sizeLine then some (.non, M.set p.1 (.lst (p.2 ++ [d]))) else none
  | _ => none
theorem append_m : MtMM K rAppend fAppend := by
  intro ι H M x ds vx vs d M' Q hm rx r hf k
  unfold fAppend at hf
  split at hf
  · rename_i d0
    cases e : asLst M x with
    | none => rw [e] at hf; cases hf
    | some p =>
      obtain ⟨i, xs⟩ := p
      rw [e] at hf
      have hf : (if xs.length < sizeLine then some (D.non, M.set i (.lst (xs ++ [d0]))) else none) = some (d, M') := hf
      split at hf
      · rename_i hz; cases hf
        obtain ⟨_, _, q, ws, rfl, hi, h1, r1⟩ := asLst_rel hm e rx
        cases r with
        | cons r2 r3 =>
          cases r3
          exact ⟨q, ws, _, rfl, rfl, h1, by rw [← r1.length]; exact hz, got_set (xs := xs) hm hi h1 (r1.append (.cons r2 .nil)) .non k⟩
      · cases hf
  · cases hf
def fPop (x : D) (ds : List D) (M : Mem) : Option (D × Mem) := match ds with
  | [] => (asLst M x).bind fun p => (p.2[p.2.length - 1]?).map fun y => (y, M.set p.1 (.lst p.2.dropLast))
  | _ => none
theorem RelDs.dropLast {ι : List Addr} {H : Hp} {xs : List D} {vs : List V} (r : RelDs K ι H xs vs) : RelDs K ι H xs.dropLast vs.dropLast := by
  rw [← erase_last, ← erase_last, r.length]
  exact r.eraseIdx _
theorem pop_m : MtMM K rPop fPop := by
  intro ι H M x ds vx vs d M' Q hm rx r hf k
  unfold fPop at hf
  split at hf
  · cases e : asLst M x with
    | none => rw [e] at hf; cases hf
    | some p =>
      obtain ⟨i, xs⟩ := p
      rw [e] at hf
      have hf : (xs[xs.length - 1]?).map (fun y => (y, M.set i (.lst xs.dropLast))) = some (d, M') := hf
      cases e1 : xs[xs.length - 1]? with
      | none => rw [e1] at hf; cases hf
      | some y =>
        rw [e1] at hf; cases hf
        obtain ⟨_, _, q, ws, rfl, hi, h1, r1⟩ := asLst_rel hm e rx
        cases r
        obtain ⟨v, ev, rv⟩ := r1.get e1
        exact ⟨q, ws, v, rfl, rfl, h1, by rw [← r1.length]; exact ev, got_set (xs := xs) hm hi h1 r1.dropLast rv k⟩
  · cases hf
/-- d.get(k, x) -/
def fGet2 (x y z : D) (M : Mem) : Option (D × Mem) := (asDict M x).bind fun kvs => (keyD y).map fun key => ((valD kvs key).getD z, M)
def mGet2 (mo ma mb : mE) : mE := fun δ M => (mo δ M).bind fun x => if (asDict x.2 x.1).isSome = true then (ma δ x.2).bind fun y => (mb δ y.2).bind fun z => fGet2 x.1 y.1 z.1 z.2 else none
end Mir

set_option Elab.async false
set_option linter.all false
set_option maxRecDepth 100000
set_option maxHeartbeats 4000000
namespace Mir
open PySem PySem.Spec L2
variable {X : Cx} {a b c e o tg : Expr} {es rest : List Expr} {pos : Pos} {ma mb mc me mo : mE} {K : PySem.W.Frag} {ta tb : mT} {mr : mA} {st : Stmt} {sts : List Stmt} {m1 m2 : mS}

theorem mv (i : Nat) {x : Str} (hN : X.N[i]? = some x := by rfl) (hv : Vis X.env.scope x := by first | exact Or.inl rfl | exact Or.inr (Or.inl rfl) | exact Or.inr (Or.inr rfl)) (hd : (x == ("__debug__" : Str)) = false := by decide)
    (hcd : (x == ("__classdict__" : Str)) = false := by decide) : PE X (.Name x pos) (tM X.K (mVar i)) := me_of_var (pe_var hN hv hd hcd)
/-- a def as its callers see it -/
structure Def (P : Program) (w : World) (K : PySem.W.Frag) (mg : Str → Option Value) (base : Heap) (x : Str) (k : Nat) (ps : List Str) (f : List D → Mem → Option (D × Mem)) : Prop where
  ex : ∃ (a : Addr) (fd : FuncData), FnOk P w K mg base CX0 k a fd ps (spM K ps.length f) ∧ mg x = some (.ref a) ∧ PySem.W.keepIn K (.ref a) = true ∧ Binds K fd ps []
theorem me_def {k j : Nat} {ps : List Str} {ff : List D → Mem → Option (D × Mem)} {x : Str} {p : Pos} (F : Def X.prog X.w X.K X.mg X.base x j ps ff) (hr : Room k X.A) (hjk : j ≤ k) (hg : Gl X x)
    (ha : PA X (e :: es) (tMA X.K mr)) (hl : ∀ δ M r, mr δ M = some r → r.1.length = ps.length)
    (hdb : (x == ("__debug__" : Str)) = false := by decide) (he : starEach (e :: es) X.env = (false, eval e X.env) :: starEach es X.env := by rfl) (hpl : (backTo pos (starEach es X.env)).any (·.1) = false := by rfl) :
    PE X (.Call (.Name x p) (e :: es) [] pos) (tM X.K (mCall ff mr)) := by
  obtain ⟨f, fd, F1, F2, F3, F4⟩ := F.ex
  exact me_call F1 (hr.mono hjk) hg F2 F3 F4 ha hl hdb he hpl
/-- a def as the top has made it -/
structure FF (K : PySem.W.Frag) (mg : Str → Option Value) (x : Str) (sf : Stmt) (ps : List Str) (a : Addr) (fd : FuncData) : Prop where
  fn : Fun K x x sf a fd
  mg : mg x = some (.ref a)
  bi : Binds K fd ps []
theorem def_of {P : Program} {w : World} {mg : Str → Option Value} {base : Heap} {x : Str} {sf : Stmt} {ps : List Str} {a : Addr} {fd : FuncData} {k : Nat} {f : List D → Mem → Option (D × Mem)} (F : FF K mg x sf ps a fd)
    (G : FnOk P w K mg base CX0 k a fd ps (spM K ps.length f)) : Def P w K mg base x k ps f := ⟨⟨a, fd, G, F.mg, F.fn.kp, F.bi⟩⟩
theorem law_sp {f : List D → Mem → Option (D × Mem)} {n : Nat} (hf : ∀ ns : List Int, ns.length ≤ n → ∃ M', f [.rol (ns.map D.int)] [] = some (.bl true, M')) (H : Hp) (a : Addr) (ns : List Int) (hn : ns.length ≤ n) (hO : ∀ xs, H a ≠ some (.lst xs)) (hT : ∀ T ∈ tabsOf K, ∃ ps, H T = some (TabO T ps)) (hS : SqL K H a (ns.map V.int)) (Qx : Hp → Prop) (hQ : ∀ ι' H', Le K [] H ι' H' → Qx H') :
    spM K 1 f [.ref a] H (fun v H' => v = .bl true ∧ Qx H') fun _ _ _ => False := by
  obtain ⟨M', e⟩ := hf ns hn
  have rs : ∀ l : List Int, RelDs K [] H (l.map D.int) (l.map V.int) := fun l => by
    induction l with
    | nil => exact .nil
    | cons x r ih => exact .cons (.int x) ih
  have sf : SqF K H a (ns.map V.int) := by
    rcases hS with (h | ⟨o, h⟩) | h
    · exact absurd h (hO _)
    · exact .inl ⟨o, h⟩
    · exact .inr h
  refine ⟨[], [.rol (ns.map D.int)], [], .bl true, M', rfl, .cons (.rol sf (rs ns)) .nil, ⟨rfl, .nil, fun i a mo e => by simp at e, hT⟩, e, fun ι' H' v l m r => ?_⟩
  cases r
  exact ⟨rfl, hQ ι' H' l⟩
theorem mg_nameV {i : Nat} {x : Str} (hN : X.N.Nodup) (hi : X.N[i]? = some x) (hx : Loc X.env.scope x) {vs : List Nat} (hv : i ∈ vs) (hf : X.fn x = true ∨ X.env.scope.names.lookup x = some .local := by first | exact .inl rfl | exact .inr rfl | assumption) : PG X (.Name x pos) (tMG X.K (gOne i) vs) := mg_one (pg_name hN hi hx hf) hv
end Mir

set_option Elab.async false
set_option linter.all false
set_option maxRecDepth 100000
set_option maxHeartbeats 4000000
namespace Mir
open PySem PySem.Spec L2
variable {X : Cx} {a b c e o tg : Expr} {es rest : List Expr} {pos : Pos} {ma mb mc me mo : mE} {K : PySem.W.Frag} {ta tb : mT} {mr : mA} {st : Stmt} {sts : List Stmt} {m1 m2 : mS}

/-! ### a constant of the module -/
structure Glob (K : PySem.W.Frag) (mg : Str → Option Value) (x : Str) (d : D) : Prop where
  ex : ∃ (v : V) (u : Value), mg x = some u ∧ RelV v u ∧ ∀ ι H, RelD K ι H d v
/-! ### sorted -/
/-! ### dict(d), dict(pairs) -/
/-! ### a dict that is walked: locked meanwhile -/
/-- the dict at the slot j, by its number -/
def dicAt (j : Nat) (δ : DSt) (M : Mem) : Option (Nat × List (Key × D)) := match δ[j]? with
  | some (some d) => asDic M d
  | _ => none
open Classical in
noncomputable def mLockS (j : Nat) (ms : mS) : mS := fun δ M => (dicAt j δ M).bind fun p => (ms δ (M.set p.1 (.dro p.2))).bind fun r => if r.2[p.1]? = some (.dro p.2) then some (r.1, r.2.set p.1 (.dic p.2)) else none
open Classical in
noncomputable def mLockE (j : Nat) (me : mE) : mE := fun δ M => (dicAt j δ M).bind fun p => (me δ (M.set p.1 (.dro p.2))).bind fun r => if r.2[p.1]? = some (.dro p.2) then some (r.1, r.2.set p.1 (.dic p.2)) else none
def kD : Key → D
  | .inl i => .int i
  | .inr x => .str x
/-- the keys of a locked dict -/
def itKeys (M : Mem) : D → Option MI
  | .obj i => match M[i]? with
    | some (.dro kvs) => some ⟨kvs.map fun kv => kD kv.1, []⟩
    | _ => none
  | _ => none
def mKeys (m : mE) : mI := fun δ M => (m δ M).bind fun r => (itKeys r.2 r.1).map fun it => (it, r.2)
def fMax2 : List D → Mem → Option (D × Mem)
  | [.int i, .int j], M => some (.int (if j > i then j else i), M)
  | _, _ => none
theorem max2_m : CallM K (fun xs H Q => ∃ i j, xs = [.int i, .int j] ∧ Q (.int (if j > i then j else i)) H) fMax2 := by
  intro ι H M ds vs d M' Q hm r hf k
  unfold fMax2 at hf
  split at hf
  · cases hf; cases r with | cons r1 r2 => cases r2 with | cons r2 r3 => cases r3; cases r1; cases r2; exact ⟨_, _, rfl, k ι H _ .refl hm (.int _)⟩
  · cases hf
def fMin2 : List D → Mem → Option (D × Mem)
  | [.int i, .int j], M => some (.int (if j < i then j else i), M)
  | _, _ => none
theorem min2_m : CallM K (fun xs H Q => ∃ i j, xs = [.int i, .int j] ∧ Q (.int (if j < i then j else i)) H) fMin2 := by
  intro ι H M ds vs d M' Q hm r hf k
  unfold fMin2 at hf
  split at hf
  · cases hf; cases r with | cons r1 r2 => cases r2 with | cons r2 r3 => cases r3; cases r1; cases r2; exact ⟨_, _, rfl, k ι H _ .refl hm (.int _)⟩
  · cases hf
end Mir

set_option Elab.async false
set_option linter.all false
set_option maxRecDepth 100000
set_option maxHeartbeats 4000000
/-! more of dicts: dict(tuple of pairs), == of dicts, pop -/
namespace L2
open PySem PySem.Spec PyProof.Rows
section
variable {prog : Program} {w : World} {A : Around} {E : Value → Shared → Prop}
end
section
variable {X : Cx}
end
end L2
namespace Mir
open PySem PySem.Spec L2
variable {X : Cx} {a b c e o tg : Expr} {es rest : List Expr} {pos : Pos} {ma mb mc me mo : mE} {K : PySem.W.Frag} {ta tb : mT} {mr : mA} {st : Stmt} {sts : List Stmt} {m1 m2 : mS}
/-! ### dict(tuple of pairs), too -/
/-! ### d != {} -/
/-! ### d.pop(k) -/
def dropD (kvs : List (Key × D)) (k : Key) : List (Key × D) := kvs.filter fun kv => decide (kv.1 ≠ k)
theorem RelKs.drop {ι : List Addr} {H : Hp} (k : Key) : ∀ {kvs : List (Key × D)} {kvs' : List (Key × V)}, RelKs K ι H kvs kvs' → RelKs K ι H (dropD kvs k) (dropK kvs' k)
  | [], [], h => h
  | [], _ :: _, h => by have := h.1; simp at this
  | _ :: _, [], h => by have := h.1; simp at this
  | x :: r, y :: r', h => by
    have h1 := h.1
    simp only [List.map_cons, List.cons.injEq] at h1
    have h2 := h.2
    simp only [List.map_cons] at h2
    cases h2 with
    | cons ra rb =>
      have ih := RelKs.drop k (kvs := r) (kvs' := r') ⟨h1.2, rb⟩
      unfold dropD dropK at ih ⊢
      rw [List.filter_cons, List.filter_cons, h1.1]
      split
      · exact ⟨by simp only [List.map_cons, h1.1, ih.1], by simp only [List.map_cons]; exact .cons ra ih.2⟩
      · exact ih
end Mir

set_option Elab.async false
set_option linter.all false
set_option maxRecDepth 100000
set_option maxHeartbeats 4000000
namespace L2
open PySem PySem.Spec PyProof.Rows
section
variable {X : Cx}
/-- the entries of a module's dict of texts -/
def Tab (P : Params) : List DictEntry → List (Str × Str) → Prop
  | [], [] => True
  | e :: es, kv :: r => e.hash = PyData.keyHash P kv.1 ∧ (∃ t, e.key = .str kv.1 t) ∧ (∃ t, e.val = .str kv.2 t) ∧ Tab P es r
  | _, _ => False
theorem tab_dict {P : Program} {w : World} : ∀ {es : List DictEntry} {kvs : List (Str × Str)}, Tab w.params es kvs → ∃ vs : List (Key × Value), vs.map (·.1) = kvs.map (fun kv => Sum.inr kv.1) ∧ Pairs (mixKind P w) es vs ∧ (∀ e ∈ es, ∃ k, (mixKind P w).is k e.key = true ∧ e.hash = (mixKind P w).hash k) ∧
    ∀ k v, kvs.lookup k = some v → ∃ t, valueAt vs (Sum.inr k) = some (.str v t)
  | [], [], _ => ⟨[], rfl, .nil, (fun _ h => by simp at h), (fun _ _ h => by simp at h)⟩
  | e :: es, kv :: r, h => by
    obtain ⟨h1, ⟨t, h2⟩, ⟨t', h3⟩, h4⟩ := h
    obtain ⟨vs, e1, e2, e3, e4⟩ := tab_dict (P := P) h4
    refine ⟨(Sum.inr kv.1, .str kv.2 t') :: vs, by simp [e1], .cons (by rw [h2]; exact mixKind_str P w kv.1 t) h3 e2, fun e' he => ?_, fun k v hk => ?_⟩
    · rcases List.mem_cons.mp he with rfl | he
      · exact ⟨Sum.inr kv.1, by rw [h2]; exact mixKind_str P w kv.1 t, h1⟩
      · exact e3 e' he
    · rw [List.lookup_cons] at hk
      unfold valueAt
      rw [List.find?_cons]
      by_cases ek : kv.1 = k
      · subst ek
        simp at hk
        subst hk
        simp
      · have ne : (k == kv.1) = false := by simp; exact fun z => ek z.symm
        rw [ne] at hk
        simp only at hk
        have : decide ((Sum.inr kv.1 : Key) = Sum.inr k) = false := by simp [ek]
        simp only [this]
        exact e4 k v hk
  | [], _ :: _, h => h.elim
  | _ :: _, [], h => h.elim
structure GDict (K : PySem.W.Frag) (w : World) (mg : Str → Option Value) (x : Str) (tab : List (Str × Str)) : Prop where
  ex : ∃ (a : Addr) (o : Obj) (es : Array DictEntry) (ep : Nat), mg x = some (.ref a) ∧ K.lookup a = some o ∧ o.ExactDict ∧ o.data = .dict es ep ∧ Tab w.params es.toList tab ∧ (tab.map (·.1)).Nodup
theorem nodup_inr : ∀ {l : List Str}, l.Nodup → (l.map (fun k => (Sum.inr k : Key))).Nodup
  | [], _ => .nil
  | x :: r, h => by
    rw [List.nodup_cons] at h
    rw [List.map_cons, List.nodup_cons]
    exact ⟨fun z => by
      obtain ⟨y, hy, e⟩ := List.mem_map.mp z
      cases e
      exact h.1 hy, nodup_inr h.2⟩
theorem GDict.at {x : Str} {tab : List (Str × Str)} (g : GDict X.K X.w X.mg x tab) : ∃ a, X.mg x = some (.ref a) ∧ ∀ (pins : List (Addr × Obj)) (σ : St) (H : Hp) (s : Shared), Inv X pins σ H s →
    ∃ vs : List (Key × Value), s.heap.DictOf (mixKind X.prog X.w) a vs ∧ ∀ k v, tab.lookup k = some v → ∃ t, valueAt vs (Sum.inr k) = some (.str v t) := by
  obtain ⟨a, o, es, ep, h1, h2, h3, h4, h5, h6⟩ := g.ex
  refine ⟨a, h1, fun pins σ H s I => ?_⟩
  obtain ⟨vs, e1, e2, e3, e4⟩ := tab_dict (P := X.prog) h5
  refine ⟨vs, ⟨o, es, ep, I.kIn a o h2, h3, h4, fun e he => e3 e (by simpa using he), e2, ?_⟩, e4⟩
  rw [e1]
  have := nodup_inr h6
  rw [List.map_map] at this
  exact this
end
end L2
namespace Mir
open PySem PySem.Spec L2
variable {X : Cx} {a b c e o tg : Expr} {es rest : List Expr} {pos : Pos} {ma mb mc me mo : mE} {K : PySem.W.Frag} {ta tb : mT} {mr : mA} {st : Stmt} {sts : List Stmt} {m1 m2 : mS}
/-! ### TUPLE.index(e), TUPLE a constant of the module -/
/-! ### DICT[e], DICT a dict of texts of the module -/
def mIxG (tab : List (Str × Str)) (m : mE) : mE := fun δ M => (m δ M).bind fun r => match r.1 with
  | .str z => (tab.lookup z).map fun y => (.str y, r.2)
  | _ => none
end Mir

set_option Elab.async false
set_option linter.all false
set_option maxRecDepth 100000
set_option maxHeartbeats 4000000
/-! zip over two lists, tuples or texts -/
namespace L2
open PySem PySem.Spec PyProof.Rows
section
variable {prog : Program} {w : World} {A : Around} {E : Value → Shared → Prop} {s : Shared}
theorem nextOf_tuple_item {it l : Addr} {i : Nat} {items} {x : Value} {Q : Value → Shared → Prop} (hit : s.heap.IsTupleIter it l i) (hl : s.heap.IsTuple l items) (hx : items[i]? = some x)
    (hQ : ∀ h', h'.IsTupleIter it l (i + 1) → Heap.SameBut it s.heap h' → Q x { s with heap := h' }) :
    wpAny (model prog w) A (Builtin.SmallTypes.nextOf (.ref it)) Q E s := by
  obtain ⟨o, ho, hc, hd⟩ := id hit
  obtain ⟨ol, hol, _, nl, hdl⟩ := hl
  unfold Builtin.SmallTypes.nextOf
  refine wpAny_bind (wpAny_callSpecial?_slot (name := Str.ofString "__next__") hit.typeIs F.slot_tuple_iterator_next
    (wpAny_call_entry F.slot_tuple_iterator_next hit.typeIs F.entry_tuple_iterator_next ?_ (F.args_tuple_iterator_next_1 _)))
  show wpAny _ _ (field (.ref it) 0 >>= _) _ _ s
  refine wpAny_bind (wpAny_field ho hd (x := .ref l) rfl ?_)
  show wpAny _ _ (if (Value.ref l == Value.none) = true then _ else _) _ _ s
  rw [if_neg (show ¬ ((Value.ref l == Value.none) = true) from Bool.false_ne_true)]
  show wpAny _ _ (field (.ref it) 1 >>= _) _ _ s
  refine wpAny_bind (wpAny_field ho hd (x := .int i 0) rfl ?_)
  show wpAny _ _ (seqItems? (.ref l) >>= _) _ _ s
  refine wpAny_bind (wpAny_seqItems hol hdl ?_)
  simp only [Int.toNat_natCast, hx]
  refine wpAny_bind (wpAny_setField ho hd (by simp) (wpAny_pure ⟨x, rfl, wpAny_pure (hQ _ ?_ (Heap.SameBut.update ..))⟩))
  exact ⟨_, Heap.get?_update_self _ ho (Obj.isFreed_of_fields (Obj.data_mapFields hd _)), (Obj.cls_mapFields ..).trans hc, by
    rw [Obj.data_mapFields hd]; simp [rawInt]⟩
theorem nextOf_tuple_end {it l : Addr} {i : Nat} {items} {Q : Value → Shared → Prop} (hh : A.handled = none)
    (hit : s.heap.IsTupleIter it l i) (hl : s.heap.IsTuple l items) (hx : items[i]? = none)
    (hE : ∀ h' e, Heap.ExtBut it s.heap h' → (∃ o, h'.get? e = some o ∧ o.cls = .type "StopIteration") → E (.ref e) { s with heap := h' }) :
    wpAny (model prog w) A (Builtin.SmallTypes.nextOf (.ref it)) Q E s := by
  obtain ⟨o, ho, hc, hd⟩ := id hit
  obtain ⟨ol, hol, _, nl, hdl⟩ := hl
  unfold Builtin.SmallTypes.nextOf
  refine wpAny_bind (wpAny_callSpecial?_slot (name := Str.ofString "__next__") hit.typeIs F.slot_tuple_iterator_next
    (wpAny_call_entry F.slot_tuple_iterator_next hit.typeIs F.entry_tuple_iterator_next ?_ (F.args_tuple_iterator_next_1 _)))
  show wpAny _ _ (field (.ref it) 0 >>= _) _ _ s
  refine wpAny_bind (wpAny_field ho hd (x := .ref l) rfl ?_)
  show wpAny _ _ (if (Value.ref l == Value.none) = true then _ else _) _ _ s
  rw [if_neg (show ¬ ((Value.ref l == Value.none) = true) from Bool.false_ne_true)]
  show wpAny _ _ (field (.ref it) 1 >>= _) _ _ s
  refine wpAny_bind (wpAny_field ho hd (x := .int i 0) rfl ?_)
  show wpAny _ _ (seqItems? (.ref l) >>= _) _ _ s
  refine wpAny_bind (wpAny_seqItems hol hdl ?_)
  simp only [Int.toNat_natCast, hx]
  refine wpAny_bind (wpAny_rule (wpAny_bind (wpAny_setField ho hd (by simp) ?_)))
  show wpAny _ _ (newExc (.type "StopIteration") [] >>= _) _ _ _
  refine wpAny_bind ?_
  simp only [newExc, newTuple]
  refine wpAny_bind (wpAny_newObj_type ?_ (by size_fits))
  refine wpAny_bind (m := firstArgMember _ _) (wpAny_of_eq (a := Value.none) (by first | rfl | (simp only [firstArgMember]; rfl)) ?_)
  refine wpAny_newObj_type ?_ (by size_fits)
  simp only [raiseNew]
  refine wpAny_bind (wpAny_handled ?_)
  first | rw [show A.in1.handled = none from hh] | rw [hh]
  refine wpAny_bind (wpAny_pure (wpAny_throw ?_))
  exact hE _ _ (((Heap.SameBut.update ..).extBut.push _).push _) ⟨_, Heap.get?_push_size _ rfl, rfl⟩
end
/-- an iterator that is drawn from -/
structure Drw (prog : Program) (w : World) (A : Around) (it : Addr) (fp : List Addr) (n : Nat) (P : Nat → Value → Prop) (St : Nat → Heap → Prop) : Prop where
  live : ∀ i h, St i h → ∃ o, h.get? it = some o
  frame : ∀ i h h', St i h → (∀ b ∈ fp, ∀ o, h.get? b = some o → h'.get? b = some o) → St i h'
  item : ∀ i (s : Shared) (Q : Value → Shared → Prop) (E : Value → Shared → Prop), i < n → St i s.heap →
    (∀ x h' tk, P i x → St (i + 1) h' → Heap.SameBut it s.heap h' → Q x { s with heap := h', toks := tk }) → wpAny (model prog w) A (Builtin.SmallTypes.nextOf (.ref it)) Q E s
  done : ∀ i (s : Shared) (Q : Value → Shared → Prop) (E : Value → Shared → Prop), n ≤ i → St i s.heap →
    (∀ h' e, Heap.ExtBut it s.heap h' → (∃ o, h'.get? e = some o ∧ o.cls = .type "StopIteration") → E (.ref e) { s with heap := h' }) → wpAny (model prog w) A (Builtin.SmallTypes.nextOf (.ref it)) Q E s
/-- what is walked -/
inductive Sc where
  | lst (a : Addr) | tup (a : Addr) | str (x : Str)
def isAsc (x : Str) : Bool := x.cps.all (· < 128)
def strTy (x : Str) : String := if isAsc x = true then "str_ascii_iterator" else "str_iterator"
def Sc.St (it : Addr) (t : Tok) : Sc → Nat → Heap → Prop
  | .lst a, i, h => h.IsListIter it a i
  | .tup a, i, h => h.IsTupleIter it a i
  | .str x, i, h => h.IsStrIter it (strTy x) x t i
def Sc.Is (K : PySem.W.Frag) (H : Hp) : Sc → List V → Prop
  | .lst a, xs => SqL K H a xs
  | .tup a, xs => SqT K H a xs
  | .str x, xs => xs = x.cps.toList.map fun c => V.str ⟨#[c]⟩
def Sc.adr : Sc → List Addr
  | .lst a => [a]
  | .tup a => [a]
  | .str _ => []
def Sc.val : Sc → V
  | .lst a => .ref a
  | .tup a => .ref a
  | .str x => .str x
def Sc.obj (t : Tok) : Sc → Obj
  | .lst a => { cls := .type "list_iterator", data := .fields #[.ref a, .int 0 0] }
  | .tup a => { cls := .type "tuple_iterator", data := .fields #[.ref a, .int 0 0] }
  | .str x => { cls := .type (strTy x), data := .fields #[.str x t, .int 0 0] }
theorem Sc.St.keep {it : Addr} {t : Tok} {S : Sc} {i : Nat} {h h' : Heap} (st : S.St it t i h) (k : ∀ o, h.get? it = some o → h'.get? it = some o) : S.St it t i h' := by
  cases S with
  | lst a => exact Heap.IsListIter.at st k
  | tup a => exact Heap.IsTupleIter.at st k
  | str x => obtain ⟨o, ho, r⟩ := (show h.IsStrIter it (strTy x) x t i from st); exact ⟨o, k o ho, r⟩
theorem Sc.St.there {it : Addr} {t : Tok} {S : Sc} {i : Nat} {h : Heap} (st : S.St it t i h) : ∃ o vs, h.get? it = some o ∧ o.data = .fields vs := by
  cases S with
  | lst a => obtain ⟨o, e, _, d⟩ := (show h.IsListIter it a i from st); exact ⟨o, _, e, d⟩
  | tup a => obtain ⟨o, e, _, d⟩ := (show h.IsTupleIter it a i from st); exact ⟨o, _, e, d⟩
  | str x => obtain ⟨o, e, _, d⟩ := (show h.IsStrIter it (strTy x) x t i from st); exact ⟨o, _, e, d⟩
theorem Sc.st0 (S : Sc) (it : Addr) (t : Tok) (h : Heap) (e : h.get? it = some (S.obj t)) : S.St it t 0 h := by
  cases S with
  | lst a => exact ⟨_, e, rfl, rfl⟩
  | tup a => exact ⟨_, e, rfl, rfl⟩
  | str x => exact ⟨_, e, rfl, rfl⟩
section
variable {X : Cx} {pins : List (Addr × Obj)} {σ : L2.St} {H : Hp} {s : Shared}
theorem Sc.inj (I : Inv X pins σ H s) {S : Sc} {xs ys : List V} (h : S.Is X.K H xs) (h' : S.Is X.K H ys) : xs = ys := by
  cases S with
  | lst a => exact I.list_inj h h'
  | tup a => exact I.tuple_inj h h'
  | str x => exact Eq.trans h (Eq.symm h')
theorem Sc.lt (I : Inv X pins σ H s) {S : Sc} {xs : List V} (h : S.Is X.K H xs) : ∀ a ∈ S.adr, a < s.heap.objs.size := by
  intro b hb
  cases S with
  | lst a => cases (List.mem_singleton.mp hb); obtain ⟨_, _, p, _⟩ := I.list h; exact p.lt
  | tup a => cases (List.mem_singleton.mp hb); obtain ⟨_, _, p, _⟩ := I.tuple h; exact p.lt
  | str x => cases hb
theorem Sc.drw (I : Inv X pins σ H s) {A : Around} (hh : A.handled = none) {S : Sc} {xs : List V} (hq : S.Is X.K H xs) (it : Addr) (t : Tok) (hne : ∀ a ∈ S.adr, a ≠ it) :
    ∃ B : Heap → Prop, B s.heap ∧ (∀ h h', B h → (∀ b ∈ S.adr, ∀ o, h.get? b = some o → h'.get? b = some o) → B h') ∧
      Drw X.prog X.w A it (it :: S.adr) xs.length (fun i u => ∃ x, xs[i]? = some x ∧ RelV x u) (fun i h => S.St it t i h ∧ B h) := by
  cases S with
  | lst a =>
    obtain ⟨its, rv, p, _⟩ := I.list hq
    have hl := rv.length
    have ha : a ≠ it := hne a (by simp [Sc.adr])
    refine ⟨fun h => h.IsList a its.toArray, p.isList, fun h h' q k => q.at fun o e => k a (by simp [Sc.adr]) o e, ?_, ?_, ?_, ?_⟩
    · rintro i h ⟨st, _⟩
      obtain ⟨o, _, e, _⟩ := Sc.St.there st
      exact ⟨o, e⟩
    · rintro i h h' ⟨st, q⟩ k
      exact ⟨st.keep (k it (by simp)), q.at fun o e => k a (by simp [Sc.adr]) o e⟩
    · rintro i s' Q E hi ⟨st, q⟩ k
      have hx : xs[i]? = some xs[i] := List.getElem?_eq_getElem hi
      obtain ⟨u, hu, ru⟩ := rv.get hx
      exact wpAny_nextOf_list_item st q (x := u) (by simpa using hu) fun h' st' sb => k u h' s'.toks ⟨_, hx, ru⟩ ⟨st', q.extBut sb.extBut ha⟩ sb
    · rintro i s' Q E hi ⟨st, q⟩ k
      exact wpAny_nextOf_list_end hh st q (by simp; omega) k
  | tup a =>
    obtain ⟨its, rv, p, _⟩ := I.tuple hq
    have hl := rv.length
    have ha : a ≠ it := hne a (by simp [Sc.adr])
    refine ⟨fun h => h.IsTuple a its.toArray, p, fun h h' q k => q.at fun o e => k a (by simp [Sc.adr]) o e, ?_, ?_, ?_, ?_⟩
    · rintro i h ⟨st, _⟩
      obtain ⟨o, _, e, _⟩ := Sc.St.there st
      exact ⟨o, e⟩
    · rintro i h h' ⟨st, q⟩ k
      exact ⟨st.keep (k it (by simp)), q.at fun o e => k a (by simp [Sc.adr]) o e⟩
    · rintro i s' Q E hi ⟨st, q⟩ k
      have hx : xs[i]? = some xs[i] := List.getElem?_eq_getElem hi
      obtain ⟨u, hu, ru⟩ := rv.get hx
      exact nextOf_tuple_item st q (x := u) (by simpa using hu) fun h' st' sb => k u h' s'.toks ⟨_, hx, ru⟩ ⟨st', q.extBut sb.extBut ha⟩ sb
    · rintro i s' Q E hi ⟨st, q⟩ k
      exact nextOf_tuple_end hh st q (by simp; omega) k
  | str x =>
    have hq : xs = x.cps.toList.map fun c => V.str ⟨#[c]⟩ := hq
    have hl : xs.length = x.cps.size := by rw [hq]; simp
    have get : ∀ i c, x.cps[i]? = some c → xs[i]? = some (V.str ⟨#[c]⟩) := fun i c e => by rw [hq, List.getElem?_map, Array.getElem?_toList, e]; rfl
    refine ⟨fun _ => True, trivial, fun _ _ _ _ => trivial, ?_, ?_, ?_, ?_⟩
    · rintro i h ⟨st, _⟩
      obtain ⟨o, _, e, _⟩ := Sc.St.there st
      exact ⟨o, e⟩
    · rintro i h h' ⟨st, _⟩ k
      exact ⟨st.keep (k it (by simp)), trivial⟩
    · rintro i s' Q E hi ⟨st, _⟩ k
      have st : s'.heap.IsStrIter it (strTy x) x t i := st
      have hi' : i < x.cps.size := by omega
      have hx : x.cps[i]? = some x.cps[i] := by simp [hi']
      unfold strTy at st
      split at st
      · rename_i ha
        refine wpAny_nextOf_ascii_item st hx fun h' st' sb => k _ h' (s'.toks + 1) ⟨_, get i _ hx, ⟨_, rfl⟩⟩ ⟨?_, trivial⟩ sb
        show h'.IsStrIter it (strTy x) x t (i + 1)
        unfold strTy
        rw [if_pos ha]
        exact st'
      · rename_i ha
        refine wpAny_nextOf_wide_item st hx fun h' st' sb => k _ h' (s'.toks + 1) ⟨_, get i _ hx, ⟨_, rfl⟩⟩ ⟨?_, trivial⟩ sb
        show h'.IsStrIter it (strTy x) x t (i + 1)
        unfold strTy
        rw [if_neg ha]
        exact st'
    · rintro i s' Q E hi ⟨st, _⟩ k
      have st : s'.heap.IsStrIter it (strTy x) x t i := st
      have hx : x.cps[i]? = none := by simp; omega
      unfold strTy at st
      split at st
      · exact wpAny_nextOf_ascii_end hh st hx k
      · exact wpAny_nextOf_wide_end hh st hx k
/-- iter of it -/
def IterTo (u : Value) (o : Obj) (s : Shared) : Prop := ∀ (prog : Program) (w : World) (A : Around) (Q : Value → Shared → Prop) (E : Value → Shared → Prop), Q (.ref s.heap.objs.size) { s with heap := s.heap.push o } → wpAny (model prog w) A (pyIter u) Q E s
theorem Sc.iter (I : Inv X pins σ H s) {S : Sc} {xs : List V} (hq : S.Is X.K H xs) {u : Value} (r : RelV S.val u) : ∃ t, ∀ s' : Shared, (∀ b o, s.heap.get? b = some o → s'.heap.get? b = some o) → IterTo u (S.obj t) s' := by
  cases S with
  | lst a =>
    cases r
    obtain ⟨its, rv, p, _⟩ := I.list hq
    exact ⟨0, fun s' k prog w A Q E q => wpAny_pyIter_list (p.isList.at fun o e => k _ _ e) q⟩
  | tup a =>
    cases r
    obtain ⟨its, rv, p, _⟩ := I.tuple hq
    exact ⟨0, fun s' k prog w A Q E q => wpAny_pyIter_tuple ((show s.heap.IsTuple a its.toArray from p).at fun o e => k _ _ e) q⟩
  | str x =>
    obtain ⟨t, rfl⟩ := r
    refine ⟨t, fun s' k prog w A Q E q => ?_⟩
    have e : Sc.obj t (.str x) = { cls := .type (strTy x), data := .fields #[.str x t, .int 0 0] } := rfl
    rw [e] at q
    unfold strTy at q
    cases ha : isAsc x with
    | true => rw [ha, if_pos rfl] at q; exact wpAny_pyIter_ascii ha q
    | false => rw [ha, if_neg (by decide)] at q; exact wpAny_pyIter_wide ha q
end
/-! ### zip -/
structure ZipA (z TI TO i1 i2 : Addr) (f1 f2 : List Addr) : Prop where
  TIz : TI ≠ z
  TOz : TO ≠ z
  i1z : i1 ≠ z
  i2z : i2 ≠ z
  TITO : TI ≠ TO
  TIi1 : TI ≠ i1
  TIi2 : TI ≠ i2
  TOi1 : TO ≠ i1
  TOi2 : TO ≠ i2
  i12 : i1 ≠ i2
  f1z : z ∉ f1
  f1TO : TO ∉ f1
  f1i : i2 ∉ f1
  f2z : z ∉ f2
  f2TO : TO ∉ f2
  f2i : i1 ∉ f2
section
variable {prog : Program} {w : World} {A : Around} {E : Value → Shared → Prop} {s : Shared} {z TI TO i1 i2 : Addr} {f1 f2 : List Addr} {n1 n2 k : Nat} {P1 P2 : Nat → Value → Prop} {S1 S2 : Nat → Heap → Prop}
theorem Drw.but {it c : Addr} {fp : List Addr} {n i : Nat} {P : Nat → Value → Prop} {St : Nat → Heap → Prop} {h h' : Heap} (D : Drw prog w A it fp n P St) (st : St i h) (b : Heap.ExtBut c h h') (hc : c ∉ fp) : St i h' :=
  D.frame _ _ _ st fun b' hb o e => b b' o (fun z => hc (z ▸ hb)) e
theorem zipG_item {a b : Value} {Q : Value → Shared → Prop} (D1 : Drw prog w A i1 f1 n1 P1 S1) (D2 : Drw prog w A i2 f2 n2 P2 S2) (D : ZipA z TI TO i1 i2 f1 f2)
    (hz : IsZip s.heap z TI TO .none) (hTI : IsPair s.heap TI (.ref i1) (.ref i2)) (hTO : IsPair s.heap TO a b) (h1 : S1 k s.heap) (h2 : S2 k s.heap) (hk1 : k < n1) (hk2 : k < n2)
    (hQ : ∀ x y h' tk, P1 k x → P2 k y → IsZip h' z TI TO (rawInt s.heap.objs.size) → IsPair h' TO x y → S1 (k + 1) h' → S2 (k + 1) h' → IsPair h' s.heap.objs.size x y → h'.objs.size = s.heap.objs.size + 1 →
      (∀ c o, c ≠ z → c ≠ TO → c ≠ i1 → c ≠ i2 → s.heap.get? c = some o → h'.get? c = some o) → Q (.ref s.heap.objs.size) { s with heap := h', toks := tk }) :
    wpAny (model prog w) A (Builtin.«zip.__next__» ⟨[.ref z], []⟩) (fun fin s' => ∃ v, fin = .done (.ret v) ∧ Q v s') E s := by
  show wpAny _ _ (field (.ref z) 2 >>= _) _ _ _
  refine wpAny_bind (wpAny_field hz rfl (x := .bool false) rfl ?_)
  show wpAny _ _ (field (.ref z) 3 >>= _) _ _ _
  refine wpAny_bind (wpAny_field hz rfl (x := .ref TI) rfl ?_)
  refine wpAny_bind (wpAny_seqItems hTI rfl ?_)
  show wpAny _ _ (Builtin.SmallTypes.ownedTupleIsFree (.ref z) >>= _) _ _ _
  refine wpAny_bind ?_
  unfold Builtin.SmallTypes.ownedTupleIsFree
  refine wpAny_bind (wpAny_field hz rfl (x := .none) rfl (wpAny_pure ?_))
  simp only [if_true]
  refine wpAny_bind (wpAny_rule ?_)
  refine wpAny_bind (wpAny_field hz rfl (x := .ref TO) rfl ?_)
  refine wpAny_bind (wpAny_setField_rec hz (by simp) fun h₁ hz₁ hs₁ => ?_)
  replace hz₁ : IsZip h₁ z TI TO .ellipsis := hz₁
  refine wpAny_bind ?_
  simp only [List.zipIdx_cons, List.zipIdx_nil, List.forIn_cons, List.forIn_nil]
  refine wpAny_bind (wpAny_bind (wpAny_onRaise ?_))
  show wpAny _ _ (Builtin.SmallTypes.nextOf (.ref i1) >>= _) _ _ _
  refine wpAny_bind (D1.item k _ _ _ hk1 (D1.but h1 hs₁.extBut D.f1z) fun x h₂ tk₂ hPx h1₂ hs₂ => wpAny_pure ?_)
  have hTO₂ : IsPair h₂ TO a b := hs₂.extBut _ _ D.TOi1 (hs₁.extBut _ _ D.TOz hTO)
  refine wpAny_bind (wpAny_seqItems hTO₂ rfl ?_)
  refine wpAny_bind (wpAny_updateSeq_pair hTO₂ fun h₃ hTO₃ hs₃ => ?_)
  replace hTO₃ : IsPair h₃ TO x b := hTO₃
  replace hs₃ : Heap.SameBut TO h₂ h₃ := hs₃
  refine wpAny_bind (wpAny_letGo (wpAny_pure ?_))
  refine wpAny_bind (wpAny_bind (wpAny_onRaise ?_))
  show wpAny _ _ (Builtin.SmallTypes.nextOf (.ref i2) >>= _) _ _ _
  refine wpAny_bind (D2.item k _ _ _ hk2 (D2.but (D2.but (D2.but h2 hs₁.extBut D.f2z) hs₂.extBut D.f2i) hs₃.extBut D.f2TO) fun y h₄ tk₄ hPy h2₄ hs₄ => wpAny_pure ?_)
  replace hs₄ : Heap.SameBut i2 h₃ h₄ := hs₄
  have hTO₄ : IsPair h₄ TO x b := hs₄.extBut _ _ D.TOi2 hTO₃
  refine wpAny_bind (wpAny_seqItems hTO₄ rfl ?_)
  refine wpAny_bind (wpAny_updateSeq_pair hTO₄ fun h₅ hTO₅ hs₅ => ?_)
  replace hTO₅ : IsPair h₅ TO x y := hTO₅
  replace hs₅ : Heap.SameBut TO h₄ h₅ := hs₅
  refine wpAny_bind (wpAny_letGo (wpAny_pure (wpAny_pure ?_)))
  refine wpAny_bind (wpAny_seqItems hTO₅ rfl ?_)
  refine wpAny_bind (wpAny_newTuple ?_)
  have hsz : h₅.objs.size = s.heap.objs.size := by rw [hs₅.1, hs₄.1, hs₃.1, hs₂.1, hs₁.1]
  have hz₅ : IsZip h₅ z TI TO .ellipsis := hs₅.extBut _ _ D.TOz.symm (hs₄.extBut _ _ D.i2z.symm (hs₃.extBut _ _ D.TOz.symm (hs₂.extBut _ _ D.i1z.symm hz₁)))
  have hk₅ : ∀ c o, c ≠ z → c ≠ TO → c ≠ i1 → c ≠ i2 → s.heap.get? c = some o → h₅.get? c = some o := fun c o c1 c2 c3 c4 e =>
    hs₅.extBut _ _ c2 (hs₄.extBut _ _ c4 (hs₃.extBut _ _ c2 (hs₂.extBut _ _ c3 (hs₁.extBut _ _ c1 e))))
  have h1₅ : S1 (k + 1) h₅ := D1.but (D1.but (D1.but h1₂ hs₃.extBut D.f1TO) hs₄.extBut D.f1i) hs₅.extBut D.f1TO
  have h2₅ : S2 (k + 1) h₅ := D2.but h2₄ hs₅.extBut D.f2TO
  have hzlt : z < h₅.objs.size := Heap.lt_size hz₅
  show wpAny _ _ (Builtin.SmallTypes.ownedTupleHandOut (.ref z) (.ref h₅.objs.size) >>= _) _ _ _
  refine wpAny_bind ?_
  unfold Builtin.SmallTypes.ownedTupleHandOut
  have hz₆ : IsZip (h₅.push { cls := .type "tuple", data := .seq #[x, y] }) z TI TO .ellipsis := Heap.get?_push_of_some _ hz₅
  refine wpAny_bind (wpAny_setField_rec hz₆ (by simp) fun h₇ hz₇ hs₇ => ?_)
  replace hz₇ : IsZip h₇ z TI TO (rawInt h₅.objs.size) := hz₇
  replace hs₇ : Heap.SameBut z (h₅.push { cls := .type "tuple", data := .seq #[x, y] }) h₇ := hs₇
  refine wpAny_setField_rec hz₇ (by simp) fun h₈ hz₈ hs₈ => ?_
  replace hz₈ : IsZip h₈ z TI TO (rawInt h₅.objs.size) := hz₈
  replace hs₈ : Heap.SameBut z h₇ h₈ := hs₈
  have up : ∀ c o, c ≠ z → h₅.get? c = some o → h₈.get? c = some o := fun c o c1 e => hs₈.extBut _ _ c1 (hs₇.extBut _ _ c1 (Heap.get?_push_of_some _ e))
  have hT₈ : IsPair h₈ h₅.objs.size x y := hs₈.extBut _ _ (Nat.ne_of_gt hzlt) (hs₇.extBut _ _ (Nat.ne_of_gt hzlt) (Heap.get?_push_size _ rfl))
  have hz8 : h₈.objs.size = h₅.objs.size + 1 := by rw [hs₈.1, hs₇.1, Heap.size_push]
  rw [hsz] at hz₈ hT₈ hz8
  refine wpAny_pure ⟨_, rfl, ?_⟩
  show Q (.ref h₅.objs.size) _
  rw [hsz]
  exact hQ x y h₈ tk₄ hPx hPy hz₈ (up _ _ D.TOz hTO₅) (D1.frame _ _ _ h1₅ fun b hb o e => up b o (fun q => D.f1z (q ▸ hb)) e) (D2.frame _ _ _ h2₅ fun b hb o e => up b o (fun q => D.f2z (q ▸ hb)) e) hT₈ hz8
    fun c o c1 c2 c3 c4 e => up c o c1 (hk₅ c o c1 c2 c3 c4 e)
theorem zipG_end {a b : Value} {Q : Fin → Shared → Prop} (D1 : Drw prog w A i1 f1 n1 P1 S1) (D2 : Drw prog w A i2 f2 n2 P2 S2) (D : ZipA z TI TO i1 i2 f1 f2)
    (hz : IsZip s.heap z TI TO .none) (hTI : IsPair s.heap TI (.ref i1) (.ref i2)) (hTO : IsPair s.heap TO a b) (h1 : S1 k s.heap) (h2 : S2 k s.heap) (hend : n1 ≤ k ∨ n2 ≤ k)
    (hE : ∀ h' e tk, (∀ c o, c ≠ z → c ≠ TO → c ≠ i1 → c ≠ i2 → s.heap.get? c = some o → h'.get? c = some o) → (∃ o, h'.get? e = some o ∧ o.cls = .type "StopIteration") → E (.ref e) { s with heap := h', toks := tk }) :
    wpAny (model prog w) A (Builtin.«zip.__next__» ⟨[.ref z], []⟩) Q E s := by
  show wpAny _ _ (field (.ref z) 2 >>= _) _ _ _
  refine wpAny_bind (wpAny_field hz rfl (x := .bool false) rfl ?_)
  show wpAny _ _ (field (.ref z) 3 >>= _) _ _ _
  refine wpAny_bind (wpAny_field hz rfl (x := .ref TI) rfl ?_)
  refine wpAny_bind (wpAny_seqItems hTI rfl ?_)
  show wpAny _ _ (Builtin.SmallTypes.ownedTupleIsFree (.ref z) >>= _) _ _ _
  refine wpAny_bind ?_
  unfold Builtin.SmallTypes.ownedTupleIsFree
  refine wpAny_bind (wpAny_field hz rfl (x := .none) rfl (wpAny_pure ?_))
  simp only [if_true]
  refine wpAny_bind (wpAny_rule ?_)
  refine wpAny_bind (wpAny_field hz rfl (x := .ref TO) rfl ?_)
  refine wpAny_bind (wpAny_setField_rec hz (by simp) fun h₁ hz₁ hs₁ => ?_)
  replace hz₁ : IsZip h₁ z TI TO .ellipsis := hz₁
  refine wpAny_bind ?_
  simp only [List.zipIdx_cons, List.zipIdx_nil, List.forIn_cons, List.forIn_nil]
  refine wpAny_bind (wpAny_bind (wpAny_onRaise ?_))
  show wpAny _ _ (Builtin.SmallTypes.nextOf (.ref i1) >>= _) _ _ _
  by_cases hk : n1 ≤ k
  · refine wpAny_bind (D1.done k _ _ _ hk (D1.but h1 hs₁.extBut D.f1z) fun h₂ e hs₂ he => ?_)
    obtain ⟨oe, hoe, hce⟩ := he
    replace hs₂ : Heap.ExtBut i1 h₁ h₂ := hs₂
    have hz₂ : IsZip h₂ z TI TO .ellipsis := hs₂ _ _ D.i1z.symm hz₁
    have hez : e ≠ z := fun x => by subst x; rw [hz₂] at hoe; cases hoe; simp at hce
    exact wpAny_setField_rec hz₂ (by simp) fun h₃ _ hs₃ => hE h₃ e _ (fun c o c1 _ c3 _ x => hs₃.extBut _ _ c1 (hs₂ _ _ c3 (hs₁.extBut _ _ c1 x))) ⟨oe, hs₃.extBut _ _ hez hoe, hce⟩
  · have hk2 : n2 ≤ k := hend.resolve_left hk
    refine wpAny_bind (D1.item k _ _ _ (Nat.lt_of_not_le hk) (D1.but h1 hs₁.extBut D.f1z) fun x h₂ tk₂ hPx h1₂ hs₂ => wpAny_pure ?_)
    replace hs₂ : Heap.SameBut i1 h₁ h₂ := hs₂
    have hTO₂ : IsPair h₂ TO a b := hs₂.extBut _ _ D.TOi1 (hs₁.extBut _ _ D.TOz hTO)
    refine wpAny_bind (wpAny_seqItems hTO₂ rfl ?_)
    refine wpAny_bind (wpAny_updateSeq_pair hTO₂ fun h₃ hTO₃ hs₃ => ?_)
    replace hs₃ : Heap.SameBut TO h₂ h₃ := hs₃
    refine wpAny_bind (wpAny_letGo (wpAny_pure ?_))
    refine wpAny_bind (wpAny_bind (wpAny_onRaise ?_))
    show wpAny _ _ (Builtin.SmallTypes.nextOf (.ref i2) >>= _) _ _ _
    refine wpAny_bind (D2.done k _ _ _ hk2 (D2.but (D2.but (D2.but h2 hs₁.extBut D.f2z) hs₂.extBut D.f2i) hs₃.extBut D.f2TO) fun h₄ e hs₄ he => ?_)
    obtain ⟨oe, hoe, hce⟩ := he
    replace hs₄ : Heap.ExtBut i2 h₃ h₄ := hs₄
    have hz₄ : IsZip h₄ z TI TO .ellipsis := hs₄ _ _ D.i2z.symm (hs₃.extBut _ _ D.TOz.symm (hs₂.extBut _ _ D.i1z.symm hz₁))
    have hez : e ≠ z := fun x => by subst x; rw [hz₄] at hoe; cases hoe; simp at hce
    exact wpAny_setField_rec hz₄ (by simp) fun h₅ _ hs₅ => hE h₅ e _ (fun c o c1 c2 c3 c4 x => hs₅.extBut _ _ c1 (hs₄ _ _ c4 (hs₃.extBut _ _ c2 (hs₂.extBut _ _ c3 (hs₁.extBut _ _ c1 x))))) ⟨oe, hs₅.extBut _ _ hez hoe, hce⟩
theorem next_zipG_item {a b : Value} {Q : Option Value → Shared → Prop} (D1 : Drw prog w A.in1 i1 f1 n1 P1 S1) (D2 : Drw prog w A.in1 i2 f2 n2 P2 S2) (D : ZipA z TI TO i1 i2 f1 f2)
    (hz : IsZip s.heap z TI TO .none) (hTI : IsPair s.heap TI (.ref i1) (.ref i2)) (hTO : IsPair s.heap TO a b) (h1 : S1 k s.heap) (h2 : S2 k s.heap) (hk1 : k < n1) (hk2 : k < n2)
    (hQ : ∀ x y h' tk, P1 k x → P2 k y → IsZip h' z TI TO (rawInt s.heap.objs.size) → IsPair h' TO x y → S1 (k + 1) h' → S2 (k + 1) h' → IsPair h' s.heap.objs.size x y → h'.objs.size = s.heap.objs.size + 1 →
      (∀ c o, c ≠ z → c ≠ TO → c ≠ i1 → c ≠ i2 → s.heap.get? c = some o → h'.get? c = some o) → Q (some (.ref s.heap.objs.size)) { s with heap := h', toks := tk }) :
    wpAny (model prog w) A (pyNext (.ref z)) Q E s := by
  have hT : s.TypeIs (.ref z) "zip" := ⟨_, hz, rfl⟩
  unfold pyNext
  exact wpAny_bind (wpAny_attempt (wpAny_callSpecial?_slot (name := Str.ofString "__next__") hT F.slot_zip_next
    (wpAny_call_entry F.slot_zip_next hT F.entry_zip_next
      (zipG_item D1 D2 D hz hTI hTO h1 h2 hk1 hk2 fun x y h' tk b1 b2 a1 a2 a3 a4 a5 a6 a7 => wpAny_pure (hQ x y h' tk b1 b2 a1 a2 a3 a4 a5 a6 a7)) (F.args_zip_next_1 _))))
theorem next_zipG_end {a b : Value} {Q : Option Value → Shared → Prop} (D1 : Drw prog w A.in1 i1 f1 n1 P1 S1) (D2 : Drw prog w A.in1 i2 f2 n2 P2 S2) (D : ZipA z TI TO i1 i2 f1 f2)
    (hz : IsZip s.heap z TI TO .none) (hTI : IsPair s.heap TI (.ref i1) (.ref i2)) (hTO : IsPair s.heap TO a b) (h1 : S1 k s.heap) (h2 : S2 k s.heap) (hend : n1 ≤ k ∨ n2 ≤ k)
    (hQ : ∀ h' tk, (∀ c o, c ≠ z → c ≠ TO → c ≠ i1 → c ≠ i2 → s.heap.get? c = some o → h'.get? c = some o) → Q none { s with heap := h', toks := tk }) : wpAny (model prog w) A (pyNext (.ref z)) Q E s := by
  have hT : s.TypeIs (.ref z) "zip" := ⟨_, hz, rfl⟩
  unfold pyNext
  refine wpAny_bind (wpAny_attempt (wpAny_callSpecial?_slot (name := Str.ofString "__next__") hT F.slot_zip_next
    (wpAny_call_entry F.slot_zip_next hT F.entry_zip_next (zipG_end D1 D2 D hz hTI hTO h1 h2 hend fun h' e tk hk he => ?_) (F.args_zip_next_1 _))))
  obtain ⟨o, ho, hc⟩ := he
  refine wpAny_bind (wpAny_isInstance (T := "StopIteration") (b := true) ⟨o, ho, hc⟩ isSubtype_stop ?_)
  exact wpAny_pure (hQ _ _ hk)
end
def zH1 (h : Heap) (o1 : Obj) : Heap := h.push o1
def zH2 (h : Heap) (o1 o2 : Obj) : Heap := (zH1 h o1).push o2
def zH3 (h : Heap) (o1 o2 : Obj) : Heap := (zH2 h o1 o2).push { cls := .type "tuple", data := .seq #[.ref h.objs.size, .ref (zH1 h o1).objs.size] }
def zH4 (h : Heap) (o1 o2 : Obj) : Heap := (zH3 h o1 o2).push { cls := .type "tuple", data := .seq #[.none, .none] }
def zH5 (h : Heap) (o1 o2 : Obj) : Heap := (zH4 h o1 o2).push { cls := .type "zip", data := .fields #[.none, .bool false, .bool false, .ref (zH2 h o1 o2).objs.size, .ref (zH3 h o1 o2).objs.size] }
theorem meets_zipG (u1 u2 : Value) (o1 o2 : Obj) :
    Meets (Builtin.«zip.__new__» ⟨[.type "zip", u1, u2], []⟩) (fun _ R s => IterTo u1 o1 s ∧ IterTo u2 o2 { s with heap := s.heap.push o1 } ∧
      R (.ok (.ret (.ref (zH4 s.heap o1 o2).objs.size))) { s with heap := zH5 s.heap o1 o2 }) :=
  .of_wp fun prog w A R s h => by
    obtain ⟨hp, g, d, tk, os⟩ := s; obtain ⟨hl1, hl2, h⟩ := h
    have hsub := sub_zip
    have hL1 : ∀ (A' : Around) (Q : Value → Shared → Prop) (E : Value → Shared → Prop), Q (.ref hp.objs.size) ⟨hp.push o1, g, d, tk, os⟩ → wpAny (model prog w) A' (pyIter u1) Q E ⟨hp, g, d, tk, os⟩ := fun A' Q E q => hl1 prog w A' Q E q
    have hL2 : ∀ (A' : Around) (Q : Value → Shared → Prop) (E : Value → Shared → Prop), Q (.ref (hp.push o1).objs.size) ⟨(hp.push o1).push o2, g, d, tk, os⟩ → wpAny (model prog w) A' (pyIter u2) Q E ⟨hp.push o1, g, d, tk, os⟩ := fun A' Q E q => hl2 prog w A' Q E q
    wp_walk using hL1 _ _ _, hL2 _ _ _
    exact ⟨_, rfl, h⟩
end L2

set_option Elab.async false
set_option linter.all false
set_option maxRecDepth 100000
set_option maxHeartbeats 4000000
namespace L2
open PySem PySem.Spec PyProof.Rows
section
variable {prog : Program} {w : World} {A : Around} {E : Value → Shared → Prop} {s : Shared}
theorem call_zipG {u1 u2 : Value} {o1 o2 : Obj} {Q : Value → Shared → Prop} (hl1 : IterTo u1 o1 s) (hl2 : IterTo u2 o2 { s with heap := s.heap.push o1 }) (hf1 : o1.isFreed = false) (hf2 : o2.isFreed = false)
    (h : ∀ h', IsZip h' (s.heap.objs.size + 4) (s.heap.objs.size + 2) (s.heap.objs.size + 3) .none → IsPair h' (s.heap.objs.size + 2) (.ref s.heap.objs.size) (.ref (s.heap.objs.size + 1)) →
      IsPair h' (s.heap.objs.size + 3) .none .none → h'.get? s.heap.objs.size = some o1 → h'.get? (s.heap.objs.size + 1) = some o2 → h'.objs.size = s.heap.objs.size + 5 →
      (∀ c o, s.heap.get? c = some o → h'.get? c = some o) → Q (.ref (s.heap.objs.size + 4)) { s with heap := h' }) :
    wpAny (model prog w) A (call (.type "zip") [u1, u2]) Q E s := by
  refine callType_new F.called_zip (by decide) (F.typeCall_zip_2 _ _) (F.newCall_zip_2 _ _) (fun obj => F.args_object_init_3 obj _ _) F.entry_zip_new
    (meets_zipG u1 u2 o1 o2) ⟨hl1, hl2, ?_⟩
  have z1 : (zH1 s.heap o1).objs.size = s.heap.objs.size + 1 := Heap.size_push ..
  have z2 : (zH2 s.heap o1 o2).objs.size = s.heap.objs.size + 2 := by unfold zH2; rw [Heap.size_push, z1]
  have z3 : (zH3 s.heap o1 o2).objs.size = s.heap.objs.size + 3 := by unfold zH3; rw [Heap.size_push, z2]
  have z4 : (zH4 s.heap o1 o2).objs.size = s.heap.objs.size + 4 := by unfold zH4; rw [Heap.size_push, z3]
  have z5 : (zH5 s.heap o1 o2).objs.size = s.heap.objs.size + 5 := by unfold zH5; rw [Heap.size_push, z4]
  have g5 : (zH5 s.heap o1 o2).get? (zH4 s.heap o1 o2).objs.size = some { cls := .type "zip", data := .fields #[.none, .bool false, .bool false, .ref (zH2 s.heap o1 o2).objs.size, .ref (zH3 s.heap o1 o2).objs.size] } := Heap.get?_push_size _ rfl
  have g4 : (zH5 s.heap o1 o2).get? (zH3 s.heap o1 o2).objs.size = some { cls := .type "tuple", data := .seq #[.none, .none] } := Heap.get?_push_of_some _ (Heap.get?_push_size _ rfl)
  have g3 : (zH5 s.heap o1 o2).get? (zH2 s.heap o1 o2).objs.size = some { cls := .type "tuple", data := .seq #[.ref s.heap.objs.size, .ref (zH1 s.heap o1).objs.size] } := Heap.get?_push_of_some _ (Heap.get?_push_of_some _ (Heap.get?_push_size _ rfl))
  have g2 : (zH5 s.heap o1 o2).get? (zH1 s.heap o1).objs.size = some o2 := Heap.get?_push_of_some _ (Heap.get?_push_of_some _ (Heap.get?_push_of_some _ (Heap.get?_push_size _ hf2)))
  have g1 : (zH5 s.heap o1 o2).get? s.heap.objs.size = some o1 := Heap.get?_push_of_some _ (Heap.get?_push_of_some _ (Heap.get?_push_of_some _ (Heap.get?_push_of_some _ (Heap.get?_push_size _ hf1))))
  show _ ∧ _
  rw [z2, z3, z4] at g5
  rw [z1, z2] at g3
  rw [z3] at g4
  rw [z1] at g2
  rw [z4]
  exact ⟨⟨_, g5, rfl⟩, h _ g5 g3 g4 g1 g2 z5 fun c o x =>
    Heap.get?_push_of_some _ (Heap.get?_push_of_some _ (Heap.get?_push_of_some _ (Heap.get?_push_of_some _ (Heap.get?_push_of_some _ x))))⟩
end
theorem Sc.alive (S : Sc) (t : Tok) : (S.obj t).isFreed = false := by cases S <;> rfl
/-- items of both in new pairs -/
def Itz2 (K : PySem.W.Frag) (S1 S2 : Sc) : It :=
  ⟨fun i H => ∃ (xs ys : List V) (x y : V), S1.Is K H xs ∧ S2.Is K H ys ∧ xs[i]? = some x ∧ ys[i]? = some y,
    fun i H v H' => ∃ T x y, v = .ref T ∧ H T = none ∧ H' = upd H T (.tup [x, y]) ∧ (∀ xs, S1.Is K H xs → xs[i]? = some x) ∧ ∀ ys, S2.Is K H ys → ys[i]? = some y,
    fun i H => ∃ xs ys : List V, S1.Is K H xs ∧ S2.Is K H ys ∧ (xs.length ≤ i ∨ ys.length ≤ i)⟩
structure Apart (z TI TO i1 i2 : Addr) (l : List Addr) : Prop where
  TIz : TI ≠ z
  TOz : TO ≠ z
  i1z : i1 ≠ z
  i2z : i2 ≠ z
  TITO : TI ≠ TO
  TIi1 : TI ≠ i1
  TIi2 : TI ≠ i2
  TOi1 : TO ≠ i1
  TOi2 : TO ≠ i2
  i12 : i1 ≠ i2
  lz : z ∉ l
  lTO : TO ∉ l
  l1 : i1 ∉ l
  l2 : i2 ∉ l
theorem Apart.zipA {z TI TO i1 i2 : Addr} {S1 S2 : Sc} (D : Apart z TI TO i1 i2 (S1.adr ++ S2.adr)) : ZipA z TI TO i1 i2 (i1 :: S1.adr) (i2 :: S2.adr) := by
  obtain ⟨a1, a2, a3, a4, a5, a6, a7, a8, a9, a10, b1, b2, b3, b4⟩ := D
  simp only [List.mem_append, not_or] at b1 b2 b3 b4
  refine ⟨a1, a2, a3, a4, a5, a6, a7, a8, a9, a10, ?_, ?_, ?_, ?_, ?_, ?_⟩ <;> simp only [List.mem_cons, not_or]
  · exact ⟨Ne.symm a3, b1.1⟩
  · exact ⟨a8, b2.1⟩
  · exact ⟨Ne.symm a10, b4.1⟩
  · exact ⟨Ne.symm a4, b1.2⟩
  · exact ⟨a9, b2.2⟩
  · exact ⟨a10, b3.2⟩
theorem turn_zipG {P : Program} {w : World} {K : PySem.W.Frag} {elts : List Expr} {kk : Nat} {tpos : Pos} {z TI TO i1 i2 : Addr} {S1 S2 : Sc} {t1 t2 : Tok} (D : Apart z TI TO i1 i2 (S1.adr ++ S2.adr)) :
    Turn P w K (.Tuple elts kk tpos) (Itz2 K S1 S2) [z, TI, TO, i1, i2] z (fun i h => IsZip h z TI TO .none ∧ IsPair h TI (.ref i1) (.ref i2) ∧ (∃ x y, IsPair h TO x y) ∧ S1.St i1 t1 i h ∧ S2.St i2 t2 i h) where
  mem := by simp
  obj := fun i h st c hc => by
    obtain ⟨hz, hTI, ⟨x, y, hTO⟩, h1, h2⟩ := st
    obtain ⟨o1, v1, e1, d1⟩ := h1.there
    obtain ⟨o2, v2, e2, d2⟩ := h2.there
    have e' : c = z ∨ c = TI ∨ c = TO ∨ c = i1 ∨ c = i2 := by simpa using hc
    rcases e' with q | q | q | q | q
    · rw [q]; exact ⟨_, hz, fun v q => nomatch q⟩
    · rw [q]; exact ⟨_, hTI, fun v q => nomatch q⟩
    · rw [q]; exact ⟨_, hTO, fun v q => nomatch q⟩
    · rw [q]; exact ⟨o1, e1, fun v q => by rw [d1] at q; cases q⟩
    · rw [q]; exact ⟨o2, e2, fun v q => by rw [d2] at q; cases q⟩
  keep := fun i h h' st k => by
    obtain ⟨hz, hTI, ⟨x, y, hTO⟩, h1, h2⟩ := st
    exact ⟨k z (by simp) _ hz, k TI (by simp) _ hTI, ⟨x, y, k TO (by simp) _ hTO⟩, h1.keep fun o q => k i1 (by simp) o q, h2.keep fun o q => k i2 (by simp) o q⟩
  item := by
    intro X hP hw hK hc i pins s σ H E I hf st hg
    subst hP hw hK
    obtain ⟨hz, hTI, ⟨x0, y0, hTO⟩, h1, h2⟩ := st
    obtain ⟨xs, ys, x, y, hqx, hqy, hx, hy⟩ := hg
    have n1 : ∀ a ∈ S1.adr, a ≠ i1 := fun a ha e => D.l1 (by rw [← e]; exact List.mem_append_left _ ha)
    have n2 : ∀ a ∈ S2.adr, a ≠ i2 := fun a ha e => D.l2 (by rw [← e]; exact List.mem_append_right _ ha)
    obtain ⟨B1, hB1, kB1, W1⟩ := Sc.drw I (A := X.A.in1) (show X.A.in1.handled = none from I.ok.hd hc) hqx i1 t1 n1
    obtain ⟨B2, hB2, kB2, W2⟩ := Sc.drw I (A := X.A.in1) (show X.A.in1.handled = none from I.ok.hd hc) hqy i2 t2 n2
    have hzl : z < s.heap.objs.size := Heap.lt_size hz
    have lx : i < xs.length := (List.getElem?_eq_some_iff.mp hx).1
    have ly : i < ys.length := (List.getElem?_eq_some_iff.mp hy).1
    refine next_zipG_item W1 W2 D.zipA hz hTI hTO ⟨h1, hB1⟩ ⟨h2, hB2⟩ lx ly fun u u2 h' tk p1 p2 z' TO' h1' h2' hT hsz hk => ?_
    obtain ⟨x', ex, ru⟩ := p1
    obtain ⟨y', ey, ru2⟩ := p2
    rw [hx] at ex; cases ex
    rw [hy] at ey; cases ey
    refine ⟨_, rfl, wpAny_letOwnedTupleGo_zip (s := { s with heap := h', toks := tk }) z' fun h'' z'' sb => ?_⟩
    have hT2 : h''.get? s.heap.objs.size = some { cls := .type "tuple", data := .seq #[u, u2] } := (sb.2 _ (Nat.ne_of_gt hzl)).trans hT
    have new : ObjOk X.prog X.w (upd H s.heap.objs.size (.tup [x, y])) h'' s.heap.objs.size (.tup [x, y]) :=
      ⟨by show 2 ≤ sizeLine; decide, [u, u2], .cons ru (.cons ru2 .nil), ⟨_, hT2, rfl, _, rfl⟩, _, hT2, rfl⟩
    have I1 : Inv X pins σ (upd H s.heap.objs.size (.tup [x, y])) { s with heap := h'', toks := tk } :=
      I.turnedNew (t' := tk) (ch := [z, TI, TO, i1, i2]) (fun c o hb q => (sb.2 c (fun q' => hb (by simp [q']))).trans (hk c o (fun q' => hb (by simp [q'])) (fun q' => hb (by simp [q'])) (fun q' => hb (by simp [q'])) (fun q' => hb (by simp [q'])) q)) hf (Nat.le_refl _) new
    refine ⟨.ref s.heap.objs.size, _, I1, rfl, ⟨_, x, y, rfl, I.hok.fresh (Nat.le_refl _), rfl, fun l hl => by rw [Sc.inj I hl hqx]; exact hx, fun l hl => by rw [Sc.inj I hl hqy]; exact hy⟩, ⟨z'', ?_, ⟨u, u2, ?_⟩, ?_, ?_⟩, fun c hcm => ?_⟩
    · exact (sb.2 _ D.TIz).trans (hk _ _ D.TIz D.TITO D.TIi1 D.TIi2 hTI)
    · exact (sb.2 _ D.TOz).trans TO'
    · exact h1'.1.keep fun o q => (sb.2 _ D.i1z).trans q
    · exact h2'.1.keep fun o q => (sb.2 _ D.i2z).trans q
    · have hlt : c < s.heap.objs.size := by
        have e' : c = z ∨ c = TI ∨ c = TO ∨ c = i1 ∨ c = i2 := by simpa using hcm
        rcases e' with q | q | q | q | q
        · rw [q]; exact hzl
        · rw [q]; exact Heap.lt_size hTI
        · rw [q]; exact Heap.lt_size hTO
        · rw [q]; obtain ⟨_, _, e1, _⟩ := h1.there; exact Heap.lt_size e1
        · rw [q]; obtain ⟨_, _, e2, _⟩ := h2.there; exact Heap.lt_size e2
      rw [upd_ne (Nat.ne_of_lt hlt)]
      exact (hf c hcm).1
  done := by
    intro X hP hw hK hc i pins s σ H E I hf st hg
    subst hP hw hK
    obtain ⟨hz, hTI, ⟨x0, y0, hTO⟩, h1, h2⟩ := st
    obtain ⟨xs, ys, hqx, hqy, hend⟩ := hg
    have n1 : ∀ a ∈ S1.adr, a ≠ i1 := fun a ha e => D.l1 (by rw [← e]; exact List.mem_append_left _ ha)
    have n2 : ∀ a ∈ S2.adr, a ≠ i2 := fun a ha e => D.l2 (by rw [← e]; exact List.mem_append_right _ ha)
    obtain ⟨B1, hB1, kB1, W1⟩ := Sc.drw I (A := X.A.in1) (show X.A.in1.handled = none from I.ok.hd hc) hqx i1 t1 n1
    obtain ⟨B2, hB2, kB2, W2⟩ := Sc.drw I (A := X.A.in1) (show X.A.in1.handled = none from I.ok.hd hc) hqy i2 t2 n2
    exact next_zipG_end W1 W2 D.zipA hz hTI hTO ⟨h1, hB1⟩ ⟨h2, hB2⟩ hend fun h' tk hk => ⟨rfl, I.turnedL (t' := tk) (ch := [z, TI, TO, i1, i2]) (fun c o hb q =>
      hk c o (fun q' => hb (by simp [q'])) (fun q' => hb (by simp [q'])) (fun q' => hb (by simp [q'])) (fun q' => hb (by simp [q'])) q) hf⟩
  self := fun A i s Q E st h => wpAny_pyIter_zip st.1 h
theorem apart_new (n : Nat) (l : List Nat) (h : ∀ a ∈ l, a < n) : @Apart (n + 4 : Nat) (n + 2 : Nat) (n + 3 : Nat) n (n + 1 : Nat) l :=
  ⟨show (n + 2 : Nat) ≠ n + 4 by omega, show (n + 3 : Nat) ≠ n + 4 by omega, show (n : Nat) ≠ n + 4 by omega, show (n + 1 : Nat) ≠ n + 4 by omega, show (n + 2 : Nat) ≠ n + 3 by omega, show (n + 2 : Nat) ≠ n by omega,
    show (n + 2 : Nat) ≠ n + 1 by omega, show (n + 3 : Nat) ≠ n by omega, show (n + 3 : Nat) ≠ n + 1 by omega, show (n : Nat) ≠ n + 1 by omega,
    fun z => absurd (h _ z) (show ¬ (n + 4 : Nat) < n by omega), fun z => absurd (h _ z) (show ¬ (n + 3 : Nat) < n by omega), fun z => absurd (h _ z) (show ¬ (n : Nat) < n by omega), fun z => absurd (h _ z) (show ¬ (n + 1 : Nat) < n by omega)⟩
def iZipG (K : PySem.W.Frag) (ta : TA) : TI := fun σ H R => ta σ H fun vs H1 => ∃ (S1 S2 : Sc) (xs ys : List V), vs = [S1.val, S2.val] ∧ S1.Is K H1 xs ∧ S2.Is K H1 ys ∧ R (Itz2 K S1 S2) H1
theorem pi_zipG {X : Cx} {e e2 : Expr} {ta : TA} {p pos tpos : Pos} {elts : List Expr} {kk : Nat} (hg : Gl X "zip") (hm : X.mg "zip" = none) (ha : PA X [e, e2] ta)
    (hs : starEach [e, e2] X.env = (false, eval e X.env) :: starEach [e2] X.env := by rfl) (hpl : (backTo pos (starEach [e2] X.env)).any (·.1) = false := by rfl) :
    PI X (.Tuple elts kk tpos) (.Call (.Name "zip" p) [e, e2] [] pos) (iZipG X.K ta) := by
  intro pins s σ H R I h
  refine Call_ (ld_blt I hg hm boot_zip5 (PyProof.Rows.callWith_type1 (thn (ha pos pins s σ H _ I h) fun us s1 ⟨vs, H1, I1, r1, q1⟩ => ?_) hs hpl))
  obtain ⟨S1, S2, xs, ys, ex, hqx, hqy, q⟩ := q1
  subst ex
  cases r1 with
  | cons r rr =>
    cases rr with
    | cons r' rr =>
      cases rr
      obtain ⟨t1, it1⟩ := Sc.iter I1 hqx r
      obtain ⟨t2, it2⟩ := Sc.iter I1 hqy r'
      have la := Sc.lt I1 hqx
      have lb := Sc.lt I1 hqy
      refine call_zipG (it1 s1 fun _ _ e => e) (it2 _ fun _ _ e => Heap.get?_push_of_some _ e) (Sc.alive _ _) (Sc.alive _ _) fun h' hz hTI hTO h1 h2 hsz hk => wpAny_pyIter_zip hz ?_
      have I2 : Inv X pins σ H1 { s1 with heap := h' } := I1.kept (t' := s1.toks) hk
      have D : Apart (s1.heap.objs.size + 4) (s1.heap.objs.size + 2) (s1.heap.objs.size + 3) s1.heap.objs.size (s1.heap.objs.size + 1) (S1.adr ++ S2.adr) := apart_new _ _ fun a ha => (List.mem_append.mp ha).elim (la a) (lb a)
      refine ⟨s1.heap.objs.size + 4, [s1.heap.objs.size + 4, s1.heap.objs.size + 2, s1.heap.objs.size + 3, s1.heap.objs.size, s1.heap.objs.size + 1], _, _, H1, rfl, I2, turn_zipG (t1 := t1) (t2 := t2) D, ⟨hz, hTI, ⟨_, _, hTO⟩, Sc.st0 _ _ _ _ h1, Sc.st0 _ _ _ _ h2⟩, fun c hcm => ?_, q⟩
      have e' : c = s1.heap.objs.size + 4 ∨ c = s1.heap.objs.size + 2 ∨ c = s1.heap.objs.size + 3 ∨ c = s1.heap.objs.size ∨ c = s1.heap.objs.size + 1 := by simpa using hcm
      have hle : s1.heap.objs.size ≤ c := by
        rcases e' with z | z | z | z | z
        · rw [z]; exact Nat.le_add_right _ _
        · rw [z]; exact Nat.le_add_right _ _
        · rw [z]; exact Nat.le_add_right _ _
        · rw [z]; exact Nat.le_refl _
        · rw [z]; exact Nat.le_add_right _ _
      exact I1.fpOk hle (I1.hok.fresh hle)
end L2
namespace Mir
open PySem PySem.Spec L2
variable {X : Cx} {a b c e e2 o tg : Expr} {es rest : List Expr} {pos : Pos} {ma mb mc me mo : mE} {K : PySem.W.Frag} {ta tb : mT} {mr : mA} {st : Stmt} {sts : List Stmt} {m1 m2 : mS}
theorem Le.relS {ι ι' : List Addr} {H H' : Hp} (l : Le K ι H ι' H') {ds : List D} {vs : List V} (r : RelDs K ι H ds vs) : RelDs K ι' H' ds vs := r.mono l.lo
theorem itAny_src {ι : List Addr} {H : Hp} {M : Mem} {d : D} {v : V} {it : MI} (hm : RelM K ι H M) (r : RelD K ι H d v) (h : itAny M d = some it) :
    ∃ S : Sc, v = S.val ∧ (∃ xs, S.Is K H xs) ∧ ∀ ι1 H1 M1, Le K ι H ι1 H1 → RelM K ι1 H1 M1 → Guarded M1 it.guard → ∃ xs, S.Is K H1 xs ∧ RelDs K ι1 H1 it.items xs := by
  cases r with
  | @tup a xs vs h1 r1 => cases h; exact ⟨.tup a, rfl, ⟨_, h1⟩, fun ι1 H1 M1 l1 _ _ => ⟨vs, l1.tp _ _ h1, l1.relS r1⟩⟩
  | str x =>
    cases h
    refine ⟨.str x, rfl, ⟨_, rfl⟩, fun ι1 H1 M1 l1 _ _ => ⟨_, rfl, ?_⟩⟩
    have : ∀ l : List Nat, RelDs K ι1 H1 (l.map fun c => D.str ⟨#[c]⟩) (l.map fun c => V.str ⟨#[c]⟩) := fun l => by
      induction l with
      | nil => exact .nil
      | cons c r ih => exact .cons (.str _) ih
    exact this _
  | @obj i a hi =>
    simp only [itAny] at h
    split at h
    · rename_i xs e; cases h
      obtain ⟨p, hp, vs, e1, e2⟩ := hm.at e
      rw [hi] at hp; cases hp
      refine ⟨.lst a, rfl, ⟨vs, .of e1⟩, fun ι1 H1 M1 l1 m1 gd => ?_⟩
      have g1 : M1[i]? = some (.lst xs) := gd (i, .lst xs) (List.mem_singleton.mpr rfl)
      obtain ⟨q, hq, ws, hH, r⟩ := m1.at g1
      rw [l1.ix _ _ hi] at hq
      cases hq
      exact ⟨ws, .of hH, r⟩
    · cases h
  | @rol a xs vs h1 r1 => cases h; exact ⟨.lst a, rfl, ⟨_, h1.sq⟩, fun ι1 H1 M1 l1 _ _ => ⟨vs, (l1.rl _ _ h1).sq, l1.relS r1⟩⟩
  | non => cases h
  | bl _ => cases h
  | int _ => cases h
  | ty _ => cases h
def zipD (xs ys : List D) : List D := (List.zip xs ys).map fun p => D.tup [p.1, p.2]
def mZip (m : mA) : mI := fun δ M => (m δ M).bind fun r => match r.1 with
  | [x, y] => (itAny r.2 x).bind fun i1 => (itAny r.2 y).map fun i2 => (⟨zipD i1.items i2.items, i1.guard ++ i2.guard⟩, r.2)
  | _ => none
theorem itR_zip {ι : List Addr} {H : Hp} {S1 S2 : Sc} {i1 i2 : MI}
    (h1 : ∀ ι1 H1 M1, Le K ι H ι1 H1 → RelM K ι1 H1 M1 → Guarded M1 i1.guard → ∃ xs, S1.Is K H1 xs ∧ RelDs K ι1 H1 i1.items xs)
    (h2 : ∀ ι1 H1 M1, Le K ι H ι1 H1 → RelM K ι1 H1 M1 → Guarded M1 i2.guard → ∃ xs, S2.Is K H1 xs ∧ RelDs K ι1 H1 i2.items xs) :
    ItR K ι H (Itz2 K S1 S2) ⟨zipD i1.items i2.items, i1.guard ++ i2.guard⟩ := by
  intro ι1 H1 M1 l1 hm1 gd i
  obtain ⟨xs, q1, r1⟩ := h1 ι1 H1 M1 l1 hm1 fun p hp => gd p (List.mem_append_left _ hp)
  obtain ⟨ys, q2, r2⟩ := h2 ι1 H1 M1 l1 hm1 fun p hp => gd p (List.mem_append_right _ hp)
  refine ⟨fun d e => ?_, fun hl => ?_⟩
  · have e : (zipD i1.items i2.items)[i]? = some d := e
    unfold zipD at e
    rw [List.getElem?_map] at e
    cases ez : (List.zip i1.items i2.items)[i]? with
    | none => rw [ez] at e; cases e
    | some p =>
      rw [ez] at e
      cases e
      rw [List.getElem?_zip_eq_some] at ez
      obtain ⟨x, hx, rx⟩ := r1.get ez.1
      obtain ⟨y, hy, ry⟩ := r2.get ez.2
      refine ⟨⟨xs, ys, x, y, q1, q2, hx, hy⟩, fun v H2 hyl => ?_⟩
      obtain ⟨T, x', y', rfl, hT, rfl, hx', hy'⟩ := hyl
      have e1 := hx' xs q1
      have e2 := hy' ys q2
      rw [hx] at e1; cases e1
      rw [hy] at e2; cases e2
      exact ⟨ι1, le_new0 hT, hm1.new0 hT, .tup (.of upd_same) ((RelDs.cons rx (.cons ry .nil)).mono (le_new0 hT).lo)⟩
  · have hl : (zipD i1.items i2.items).length ≤ i := hl
    unfold zipD at hl
    rw [List.length_map, List.length_zip] at hl
    refine ⟨xs, ys, q1, q2, ?_⟩
    rw [← r1.length, ← r2.length]
    rcases Nat.le_total i1.items.length i2.items.length with q | q
    · exact .inl (by rwa [Nat.min_eq_left q] at hl)
    · exact .inr (by rwa [Nat.min_eq_right q] at hl)
theorem mi_zip {p tpos : Pos} {elts : List Expr} {kk : Nat} (hg : Gl X "zip") (hm : X.mg "zip" = none) (ha : PA X [e, e2] (tMA X.K mr))
    (hs : starEach [e, e2] X.env = (false, eval e X.env) :: starEach [e2] X.env := by rfl) (hpl : (backTo pos (starEach [e2] X.env)).any (·.1) = false := by rfl) :
    PI X (.Tuple elts kk tpos) (.Call (.Name "zip" p) [e, e2] [] pos) (tMI X.K (mZip mr)) := PI.imp (pi_zipG hg hm ha hs hpl) fun σ H R ⟨ι, δ, M, it, M', hs, hm, he, k⟩ => by
  unfold mZip at he
  cases e1 : mr δ M with
  | none => rw [e1] at he; cases he
  | some r =>
    obtain ⟨ds, M1⟩ := r
    rw [e1] at he
    simp only [Option.bind_some] at he
    split at he
    · rename_i x y
      cases e3 : itAny M1 x with
      | none => rw [e3] at he; cases he
      | some j1 =>
        rw [e3] at he
        simp only [Option.bind_some] at he
        cases e4 : itAny M1 y with
        | none => rw [e4] at he; cases he
        | some j2 =>
          rw [e4] at he
          cases he
          refine ⟨ι, δ, M, _, _, hs, hm, e1, fun ι1 H1 vs l1 m1 r1 => ?_⟩
          cases r1 with
          | cons ra rt =>
            cases rt with
            | cons rb rt =>
              cases rt
              obtain ⟨S1, rfl, ⟨xs, q1⟩, w1⟩ := itAny_src m1 ra e3
              obtain ⟨S2, rfl, ⟨ys, q2⟩, w2⟩ := itAny_src m1 rb e4
              exact ⟨S1, S2, xs, ys, rfl, q1, q2, k ι1 H1 _ l1 m1 (itR_zip w1 w2)⟩
    · cases he
end Mir

set_option Elab.async false
set_option linter.all false
set_option maxRecDepth 100000
set_option maxHeartbeats 4000000
/-! list(reversed(..)); constants of the module -/
namespace L2
open PySem PySem.Spec PyProof.Rows
theorem zip_no_len : typeLookup (.type "zip") "__len__" = pure none := by rw [typeLookup_type, builtinLookup_eq_fast]; kernel_rfl
theorem zip_no_hint : typeLookup (.type "zip") "__length_hint__" = pure none := by rw [typeLookup_type, builtinLookup_eq_fast]; kernel_rfl
section
variable {prog : Program} {w : World} {A : Around} {E : Value → Shared → Prop} {s : Shared}
theorem hint_zip {I : Addr} {Q : Bool → Shared → Prop} (hT : s.TypeIs (.ref I) "zip") (q : ∀ b, Q b s) : wpAny (model prog w) A (Builtin.List.listLengthHint (.ref I)) Q E s := by
  unfold Builtin.List.listLengthHint
  refine wpAny_bind (wpAny_specialOf hT zip_no_len ?_)
  show wpAny _ _ (specialOf (Value.ref I) (Str.ofString "__length_hint__") >>= _) _ _ _
  refine wpAny_bind (wpAny_specialOf hT zip_no_hint ?_)
  exact wpAny_pure (q _)
end
section
variable {prog : Program} {w : World} {A : Around} {s : Shared} {R : Result → Shared → Prop}
variable {I : Addr} {fp wr : List Addr} {G : Array GenState → Array GenState → Prop} {n : Nat} {P : Nat → Value → Prop} {St : Nat → Shared → Prop} {T : String}
end
section
variable {prog : Program} {w : World} {A : Around} {E : Value → Shared → Prop} {s : Shared}
variable {I : Addr} {fp wr : List Addr} {G : Array GenState → Array GenState → Prop} {n : Nat} {P : Nat → Value → Prop} {St : Nat → Shared → Prop} {T : String}
end
end L2
namespace L2
open PySem PySem.Spec PyProof.Rows
theorem vals_rev : ∀ {xs : List V} {us : List Value}, Vals xs us → Vals xs.reverse us.reverse := by
  intro xs us r
  induction r with
  | nil => exact .nil
  | cons r1 r2 ih => rw [List.reverse_cons, List.reverse_cons]; exact Vals.append ih (.cons r1 .nil)
theorem bootList : bootBuiltins "list" = some (.type "list") := by decide +kernel
theorem bootTuple : bootBuiltins "tuple" = some (.type "tuple") := by decide +kernel
section
variable {X : Cx} {e : Expr} {ta : TA} {p p2 pos pos2 : Pos}
end
end L2
namespace Mir
open PySem PySem.Spec L2
variable {X : Cx} {a b c e e2 o tg : Expr} {es rest : List Expr} {pos : Pos} {ma mb mc me mo : mE} {K : PySem.W.Frag} {ta tb : mT} {mr : mA} {st : Stmt} {sts : List Stmt} {m1 m2 : mS}
/-! ### constants of the module -/
def StrsAre : List Value → List Str → Prop
  | [], [] => True
  | v :: vs, x :: xs => (∃ t, v = .str x t) ∧ StrsAre vs xs
  | _, _ => False
end Mir
namespace Mir
open PySem PySem.Spec L2
variable {X : Cx} {pos : Pos}
/-! ### the display of a dict, in one -/
structure PQ (X : Cx) (pos : Pos) (keys : List (Option Expr)) (values : List Expr) (n : Nat) (m : mP) : Prop where
  ex : ∃ trs, PPs X pos keys values trs ∧ (∀ p, Pairs X.K p trs m) ∧ (keys.all fun x => x.isSome) = true ∧ keys.length = values.length ∧ keys.length = n
end Mir
namespace Mir
open PySem PySem.Spec L2
/-! ### a long display first in a body: hidden from the elaborator -/
@[irreducible] def Hid (p : Prop) : Prop := p
section
variable {P : Program} {w : World} {K : PySem.W.Frag} {mg : Str → Option Value} {base : Heap}
end
section
variable {X : Cx} {pos spos py : Pos} {st : Stmt} {sts : List Stmt} {m1 m2 : mS}
end
end Mir

set_option Elab.async false
set_option linter.all false
set_option maxRecDepth 100000
set_option maxHeartbeats 4000000
/-! max(xs, default=d); text * number; list(range(n)); list.index -/
namespace L2
open PySem PySem.Spec PyProof.Rows
section
variable {prog : Program} {w : World} {A : Around} {R : Result → Shared → Prop} {I : Addr} {fp wr : List Addr} {n : Nat} {P : Nat → Value → Prop} {St : Nat → Heap → Prop} {kw : List (Str × Value)}
end
section
variable {prog : Program} {w : World} {A : Around} {E : Value → Shared → Prop} {s : Shared}
end
section
variable {X : Cx} {e ev : Expr} {te tv : TE} {p pos kp : Pos}
end
end L2
namespace Mir
open PySem PySem.Spec L2
variable {X : Cx} {a b c e e2 ev o tg : Expr} {es rest : List Expr} {pos : Pos} {ma mb mc me mo mv : mE} {K : PySem.W.Frag} {ta tb : mT} {mr : mA} {st : Stmt} {sts : List Stmt} {m1 m2 : mS}
end Mir
namespace L2
open PySem PySem.Spec PyProof.Rows
end L2
namespace Mir
open PySem PySem.Spec L2
variable {X : Cx} {a b c e e2 ev o tg : Expr} {es rest : List Expr} {pos : Pos} {ma mb mc me mo mv : mE} {K : PySem.W.Frag} {ta tb : mT} {mr : mA} {st : Stmt} {sts : List Stmt} {m1 m2 : mS}
/-! ### list.index -/
end Mir
namespace L2
open PySem PySem.Spec PyProof.Rows
section
variable {X : Cx} {e : Expr} {ta : TA} {p p2 pos pos2 : Pos}
end
end L2
namespace Mir
open PySem PySem.Spec L2
variable {X : Cx} {e : Expr} {pos : Pos} {mr : mA}
end Mir

set_option Elab.async false
set_option linter.all false
set_option maxRecDepth 100000
set_option maxHeartbeats 4000000
/-! enumerate over a list, a tuple or a text -/
namespace L2
open PySem PySem.Spec PyProof.Rows
section
variable {prog : Program} {w : World} {A : Around} {E : Value → Shared → Prop} {s : Shared}
end
end L2
namespace Mir
open PySem PySem.Spec L2
variable {X : Cx} {a b c e e2 ev o tg : Expr} {es rest : List Expr} {pos : Pos} {ma mb mc me mo mv : mE} {K : PySem.W.Frag} {ta tb : mT} {mr : mA} {st : Stmt} {sts : List Stmt} {m1 m2 : mS}
def enumD (xs : List D) : List D := xs.mapIdx fun i d => D.tup [.int (i : Nat), d]
def mEnumerate (m : mA) : mI := fun δ M => (m δ M).bind fun r => match r.1 with
  | [x] => (itAny r.2 x).map fun i1 => (⟨enumD i1.items, i1.guard⟩, r.2)
  | _ => none
/-! ### max, min of a list of whole numbers -/
end Mir
namespace Mir
open PySem PySem.Spec L2
variable {K : PySem.W.Frag}
/-! ### list.extend(list) -/
end Mir

set_option Elab.async false
set_option linter.all false
set_option maxRecDepth 100000
set_option maxHeartbeats 4000000
/-! list.remove, of texts or of whole numbers -/
namespace L2
open PySem PySem.Spec PyProof.Rows
section
variable {X : Cx}
end
end L2
namespace Mir
open PySem PySem.Spec L2
variable {K : PySem.W.Frag}
theorem boot_any : bootBuiltins "any" = some (.builtin "any") := by decide +kernel
section
variable {X : Cx} {a b : Expr} {pos : Pos} {ma mb : mE}
end
section
variable {X : Cx} {a b : Expr} {pos : Pos} {ma mb : mE}
end
end Mir

set_option Elab.async false
set_option linter.all false
set_option maxRecDepth 100000
set_option maxHeartbeats 4000000
/-! sorted of pairs of whole numbers; a def that calls itself -/
namespace Mir
open PySem PySem.Spec L2
variable {X : Cx} {K : PySem.W.Frag}
abbrev II := Int × Int
abbrev AP := Addr × II
theorem refs_vals : ∀ ps : List AP, Vals (ps.map fun p => V.ref p.1) (ps.map fun p => Value.ref p.1)
  | [] => .nil
  | p :: ps => .cons rfl (refs_vals ps)
abbrev pD (p : II) : D := .tup [.int p.1, .int p.2]
theorem pairs_rel {ι : List Addr} {H : Hp} : ∀ aps : List AP, (∀ p ∈ aps, SqT K H p.1 [V.int p.2.1, V.int p.2.2]) → RelDs K ι H ((aps.map (·.2)).map pD) (aps.map fun p => V.ref p.1)
  | [], _ => .nil
  | p :: r, h => .cons (.tup (h p (.head _)) (.cons (.int _) (.cons (.int _) .nil))) (pairs_rel r fun q hq => h q (.tail _ hq))
end Mir

set_option Elab.async false
set_option linter.all false
set_option maxRecDepth 100000
set_option maxHeartbeats 4000000
/-! sorted(d.items()) of whole numbers -/
namespace L2
open PySem PySem.Spec PyProof.Rows
theorem Inv.laidM {X : Cx} {pins : List (Addr × Obj)} {σ : St} {H H2 : Hp} {s : Shared} {h' : Heap} {t' : Nat} (I : Inv X pins σ H s) (k : ∀ b u, s.heap.get? b = some u → h'.get? b = some u) (old : ∀ b, b < s.heap.objs.size → H2 b = H b)
    (new : ∀ b o, s.heap.objs.size ≤ b → H2 b = some o → ObjOk X.prog X.w H2 h' b o) : Inv X pins σ H2 { s with heap := h', toks := t' } := by
  have sub : ∀ b o, H b = some o → H2 b = some o := fun b o e => by rw [old b (I.hok b o e).lt]; exact e
  refine I.un ⟨fun b u q _ _ _ => k b u q, fun b u q _ _ _ => ⟨u.slots, k b u q⟩, fun b u q n _ => by rw [old b (Heap.lt_size q)]; exact n, fun b u q _ => ⟨u, k b u q⟩, fun b xs q => sub _ _ q, fun b u xs q => sub _ _ q, fun b ps q => ⟨#[], by rw [sub _ _ q]; simp⟩⟩ ?_
  intro b u e
  by_cases hb : b < s.heap.objs.size
  · rw [old b hb] at e
    exact (I.hok b u e).stay (fun c v _ q => k c v q) (fun c q => sub _ _ q) fun c xs q => sub _ _ q
  · exact new b u (Nat.le_of_not_lt hb) e
end L2
namespace Mir
open PySem PySem.Spec L2
variable {X : Cx} {K : PySem.W.Frag} {e : Expr} {td : TE} {pos p apos cpos : Pos}
/-- the abstract heap with fresh pairs -/
def withP (H : Hp) (ps : List AP) : Hp := fun b => match ps.find? (fun p => p.1 == b) with
  | some p => some (.tup [V.int p.2.1, V.int p.2.2])
  | none => H b
theorem le_sub {ι : List Addr} {H H2 : Hp} (sub : ∀ b o, H b = some o → H2 b = some o) : Le K ι H ι H2 :=
  ⟨fun _ _ h => h, fun a xs q => by
    rcases q with (q | ⟨u, q⟩) | q
    · exact .inl (.inl (sub _ _ q))
    · exact .inl (.inr ⟨u, sub _ _ q⟩)
    · exact .inr q, fun a xs q => by
    rcases q with ⟨u, q⟩ | q
    · exact .inl ⟨u, sub _ _ q⟩
    · exact .inr q, fun a u q n => ⟨sub _ _ q, n⟩, fun a o u q => sub _ _ q, fun a u q => sub _ _ q⟩
end Mir

set_option Elab.async false
set_option linter.all false
set_option maxRecDepth 100000
set_option maxHeartbeats 4000000
/-! Generator expressions in all(..), any(..) -/
namespace L2
open PySem PySem.Spec PyProof.Rows
/-! how many generators there are never falls -/
theorem runs_gens {M : Model} {Γ : PySem.Ctx} {p : Pos} {t : Sem Fin} {fs : List Frame} {s s' : Shared} {e : End} (h : Runs M Γ p t fs s e s') : s.gens.size ≤ s'.gens.size := by
  induction h <;> (try simp only [Shared.setGen, Array.size_setIfInBounds, Array.size_push, Array.size_modify, Array.size_set!] at *) <;> omega
theorem wakes_gens {M : Model} {Γ : PySem.Ctx} {p : Pos} {g : Nat} {r : Resume} {s s' : Shared} {res : GenResult} (h : Wakes M Γ p g r s res s') : s.gens.size ≤ s'.gens.size := by
  unfold Wakes at h
  split at h
  · exact h.elim
  · split at h
    · obtain ⟨e₁, s₁, hr, _, _, rfl⟩ := h
      have := runs_gens hr
      simpa [Shared.setGen] using this
    · rw [h.2]; simp [Shared.setGen]
    · rw [h.2]; simp [Shared.setGen]
  · obtain ⟨e₁, s₁, hr, _, _, rfl⟩ := h
    have := runs_gens hr
    simpa [Shared.setGen] using this
  · rw [h.2]; simp [Shared.setGen]
  · rw [h.2]; simp [Shared.setGen]
theorem wp_gens {α : Type} (M : Model) (Γ : PySem.Ctx) (n : Nat) (t : Sem α) : ∀ (Qz : α → Pos → Shared → Prop) (Ez : Value → Pos → Shared → Prop) (pz : Pos) (sz : Shared), n ≤ sz.gens.size → Sem.wp M Γ t Qz Ez pz sz →
    Sem.wp M Γ t (fun a p' s' => n ≤ s'.gens.size ∧ Qz a p' s') Ez pz sz := by
  induction t with
  | pure a => intro Qz Ez pz sz hn h; exact ⟨hn, h⟩
  | raise e => intro Qz Ez pz sz hn h; exact h
  | unsupported _ => intro Qz Ez pz sz _ h; exact h
  | finish _ => intro Qz Ez pz sz _ h; exact h
  | register _ _ => intro Qz Ez pz sz _ h; exact h
  | yield _ _ _ _ => intro Qz Ez pz sz _ h; exact h
  | fork _ _ => intro Qz Ez pz sz _ h; exact h
  | await _ _ _ _ _ => intro Qz Ez pz sz _ h; exact h
  | load a _ k ih => intro Qz Ez pz sz hn h; obtain ⟨o, ho, h⟩ := h; exact ⟨o, ho, ih o Qz Ez pz sz hn h⟩
  | update a _ f k ih => intro Qz Ez pz sz hn h; exact ⟨h.1, ih () Qz Ez pz _ hn h.2⟩
  | choose src m k ih => intro Qz Ez pz sz hn h; exact ⟨h.1, ih _ Qz Ez pz _ hn h.2⟩
  | call c hd _ _ k ih => intro Qz Ez pz sz hn h; obtain ⟨r, s', hr, h⟩ := h; exact ⟨r, s', hr, ih r Qz Ez pz s' (Nat.le_trans hn (runs_gens hr)) h⟩
  | genState g k ih => intro Qz Ez pz sz hn h; obtain ⟨st, hs, h⟩ := h; exact ⟨st, hs, ih _ Qz Ez pz sz hn h⟩
  | newGen c k ih => intro Qz Ez pz sz hn h; exact ih _ Qz Ez pz _ (by simp only [Array.size_push]; omega) h
  | resume g r _ k ih => intro Qz Ez pz sz hn h; obtain ⟨res, s', hw, h⟩ := h; exact ⟨res, s', hw, ih res Qz Ez pz s' (Nat.le_trans hn (wakes_gens hw)) h⟩
  | rule _ k ih => intro Qz Ez pz sz hn h; exact ih _ Qz Ez pz sz hn h
  | «at» p' k ih => intro Qz Ez pz sz hn h; exact ih _ Qz Ez p' sz hn h
  | loadIfAlive a k ih => intro Qz Ez pz sz hn h; exact ih _ Qz Ez pz sz hn h
  | point _ k ih => intro Qz Ez pz sz hn h; exact ih _ Qz Ez pz sz hn h
  | alloc o k ih => intro Qz Ez pz sz hn h; exact ih _ Qz Ez pz _ hn h
  | fresh k ih => intro Qz Ez pz sz hn h; exact ih _ Qz Ez pz _ hn h
  | ask k ih => intro Qz Ez pz sz hn h; exact ih _ Qz Ez pz sz hn h
  | os q _ k ih => intro Qz Ez pz sz hn h; exact ih _ Qz Ez pz _ hn h
  | handled own k ih => intro Qz Ez pz sz hn h; exact ih _ Qz Ez pz sz hn h
  | stack k ih => intro Qz Ez pz sz hn h; exact ih _ Qz Ez pz sz hn h
  | thread k ih => intro Qz Ez pz sz hn h; exact ih _ Qz Ez pz sz hn h
theorem wpAny_gens {α : Type} {M : Model} {A : Around} {s : Shared} {t : Sem α} {Q : α → Shared → Prop} {E : Value → Shared → Prop} {n : Nat} (hn : n ≤ s.gens.size) (h : wpAny M A t Q E s) :
    wpAny M A t (fun a s' => n ≤ s'.gens.size ∧ Q a s') E s := fun Γ p hΓ => wp_gens M Γ n t _ _ p s hn (h Γ p hΓ)

/-! ### the frame of a generator -/
theorem over_frames {A : Around} {l : List Env} {elt : Expr} {gs : List Comprehension} {sc : Scope} {ps : Pos} {it acc : Value} {ce : Env} (h : A.frames = some l) :
    (A.over (.compLoop (.GeneratorExp elt gs sc ps) 0 it acc ce) []).frames = some (ce :: l) := by
  simp [Around.over, Code.envs, Code.isFrame, pushEnvs, envsOf, Code.env?, h]
theorem Room.gen {k : Nat} {A : Around} {elt : Expr} {gs : List Comprehension} {sc : Scope} {ps : Pos} {it acc : Value} {ce : Env} (r : Room (k + 1) A) :
    Room k (A.in1.in1.over (.compLoop (.GeneratorExp elt gs sc ps) 0 it acc ce) []) := by
  refine ⟨?_, ?_, ?_⟩
  · exact r.hd
  · have := r.dp
    show A.depth + 0 + 1 + 3 * k + 5 < _
    omega
  · have := r.un
    show A.units + 1 + 1 + 0 + 3 + 16 * k + 200 < _
    omega
structure GenOk (N : List Str) (sc scope : Scope) (own : List (Str × Nat)) : Prop where
  blk : BlkOk N sc scope own
  nocell : ∀ y ∈ scope.names, y.2 ≠ .cell
  dot : scope.names.lookup (".0" : Str) = some NameKind.local
  co : scope.isCoroutine = false
/-- the context of a generator's frame -/
abbrev Cx.gen (X : Cx) (A : Around) (s : Shared) (H : Hp) (cenv : Env) (fp : List Addr) : Cx :=
  { X with A := A, s_0 := s, H_0 := H, env := cenv, outer := X.stack, stack := cenv :: X.stack, ex := fp, fn := fun _ => false, pn := [], xe := fun _ _ => False }
section
variable {X : Cx} {pins : List (Addr × Obj)} {σ : St} {H : Hp} {s : Shared}
theorem Inv.same {s' : Shared} (I : Inv X pins σ H s) (hh : s'.heap = s.heap) (ho : s'.os = s.os) (hg : AllBare s'.gens) : Inv X pins σ H s' :=
  ⟨I.ok, ho.trans I.os, hg, by rw [hh]; exact I.base, by rw [hh]; exact I.loc, by rw [hh]; exact I.cell, I.free, I.freeC, by rw [hh]; exact I.pin, by rw [hh]; exact I.hok, I.len⟩
theorem gen_start {A : Around} {scope : Scope} {own : List (Str × Nat)} {fp : List Addr} {code itv : Value} {h5 : Heap} {g5 : Array GenState} {t5 : Nat} {a : Addr} {go : Obj} (I : Inv X pins σ H s) (ok : GenOk X.N X.env.scope scope own) (hN : X.N.Nodup)
    (hfp : ∀ b ∈ fp, FpOk X pins H b ∧ b < s.heap.objs.size)
    (hh : X.calm = true → A.handled = none) (hfr : A.frames = some (genEnv scope (cloFrom X.env.cells scope.names []) s.heap.objs.size code builtinsNs X.env :: X.stack))
    (hns : h5.Ns s.heap.objs.size (fun y => if y = ".0" then some itv else none)) (kp : ∀ b o, s.heap.get? b = some o → h5.get? b = some o) (hg5 : AllBare g5)
    (ha : h5.get? a = some go) (haC : s.heap.objs.size < a) (hgc : ∀ v, go.data ≠ .cell v) :
    Inv (X.gen A s H (genEnv scope (cloFrom X.env.cells scope.names []) s.heap.objs.size code builtinsNs X.env) fp) [(a, go)] (wipe σ (own.map (·.2))) H { s with heap := h5, gens := g5, toks := t5 } := by
  have hfree : ∀ y ∈ scope.names, y.2 = .free → ∃ c, X.env.cells.lookup y.1 = some c := fun y hy e => by
    rcases ok.blk.free y hy e with k | k
    · exact I.ok.has _ (.inl k)
    · exact I.ok.has _ (.inr k)
  generalize hcenv : genEnv scope (cloFrom X.env.cells scope.names []) s.heap.objs.size code builtinsNs X.env = cenv at hfr
  have hL : cenv.locals = s.heap.objs.size := by rw [← hcenv]; rfl
  have hcl : cenv.cells = cloFrom X.env.cells scope.names [] := by rw [← hcenv]; rfl
  have hsc : cenv.scope = scope := by rw [← hcenv]; rfl
  have cm : ∀ {y c}, (y, c) ∈ cloFrom X.env.cells scope.names [] → X.env.cells.lookup y = some c ∧ c < s.heap.objs.size ∧ (y, NameKind.free) ∈ scope.names := fun {y c} hm => by
    rcases cloFrom_mem hm with hm | ⟨h1, rfl⟩
    · cases hm
    · obtain ⟨c, hc⟩ := hfree _ h1 rfl
      rw [hc]
      obtain ⟨w, z⟩ := I.cell _ _ hc
      exact ⟨rfl, z.lt, h1⟩
  have mem : ∀ {y c}, cenv.cells.lookup y = some c → X.env.cells.lookup y = some c ∧ c < s.heap.objs.size := fun {y c} e => by
    rw [hcl] at e
    obtain ⟨p1, p2, _⟩ := cm (PySem.mem_of_lookup e)
    exact ⟨p1, p2⟩
  have look : ∀ {y}, scope.names.lookup y = some .free → ∃ c, cenv.cells.lookup y = some c ∧ X.env.cells.lookup y = some c := fun {y} hl => by
    obtain ⟨c', e'⟩ := mem_lookup (cloFrom_has (cells := X.env.cells) (acc := []) (PySem.mem_of_lookup hl))
    rw [← hcl] at e'
    exact ⟨c', e', (mem e').1⟩
  have okG : (X.gen A s H cenv fp).Ok := by
    refine ⟨I.ok.mod, by show cenv.scope.kind = _; rw [hsc]; exact ok.blk.kind, by show cenv.globals = _; rw [← hcenv]; exact I.ok.glob, by show cenv.builtins = _; rw [← hcenv]; rfl, by show s.heap.objs.size ≤ cenv.locals; rw [hL]; exact Nat.le_refl _,
      fun y z c e1 e2 => ?_, fun y hy => ?_, fun y c z e => (Bool.noConfusion (show false = true from z)), hh, hfr, .inr ⟨rfl, by show cenv.frame = _; rw [← hcenv]; rfl⟩, fun b hb => ⟨?_, fun y c e z => ?_⟩, I.bs, Nat.le_trans I.ok.bsz I.sz, fun b o e hb => ?_, fun b hb z => ?_, I.stack, I.stkFree⟩
    · exact I.ok.inj y z c (mem e1).1 (mem e2).1
    · show ∃ c, cenv.cells.lookup y = some c
      rcases hy with hy | hy
      · have hy : cenv.scope.names.lookup y = some .cell := hy
        rw [hsc] at hy
        exact absurd rfl (ok.nocell _ (PySem.mem_of_lookup hy))
      · have hy : cenv.scope.names.lookup y = some .free := hy
        rw [hsc] at hy
        obtain ⟨c, e1, _⟩ := look hy
        exact ⟨c, e1⟩
    · show b ≠ cenv.locals
      rw [hL]; exact Nat.ne_of_lt (hfp b hb).2
    · exact (hfp b hb).1.2.2.2.2.1 y c (mem e).1 z
    · rcases (hfp b hb).1.2.2.2.1 with z | z
      · exact I.ok.noex b o e z
      · exact absurd (Nat.lt_of_lt_of_le (Heap.lt_size e) (Nat.le_trans I.ok.bsz z)) (Nat.lt_irrefl _)
    · rcases List.mem_cons.mp (I.stkSub b z) with z | z
      · exact (hfp b hb).1.2.1 z
      · exact (hfp b hb).1.2.2.1 z
  refine ⟨okG, rfl, hg5, Un.kept kp, ⟨_, by show h5.Ns cenv.locals _; rw [hL]; exact hns, fun i y av e1 e2 e3 => ?_⟩, fun y c e => ?_, ?_, fun y c e => ?_, fun p hp => ?_, I.hok.kept kp, by rw [wipe_length]; exact I.len⟩
  · obtain ⟨e2, hne⟩ := wipe_some e2
    have e3 : Vis cenv.scope y := e3
    rw [hsc] at e3
    have no : ∀ k, (k = NameKind.local ∨ k = .cell) → scope.names.lookup y ≠ some k := fun k hk e => by
      rcases ok.blk.own _ (PySem.mem_of_lookup e) hk with e' | e'
      · obtain ⟨p, hp, hpy⟩ := List.mem_map.mp e'
        have e4 := ok.blk.ix p hp
        have : p.1 = y := hpy
        rw [this] at e4
        exact hne (List.mem_map.mpr ⟨p, hp, nodup_ix hN e4 e1⟩)
      · exact e' (List.mem_of_getElem? e1)
    have hf : scope.names.lookup y = some .free := by
      rcases e3 with e3 | e3 | e3
      · exact absurd e3 (no _ (.inl rfl))
      · exact absurd e3 (no _ (.inr rfl))
      · exact e3
    obtain ⟨m, hn, hl⟩ := I.loc
    have hvis : Vis X.env.scope y := (ok.blk.free _ (PySem.mem_of_lookup hf) rfl).elim (fun k => .inr (.inl k)) (fun k => .inr (.inr k))
    obtain ⟨w, r, q⟩ := hl i y av e1 e2 hvis
    refine ⟨w, r, .inr ⟨.inr (by show cenv.scope.names.lookup y = _; rw [hsc]; exact hf), ?_⟩⟩
    obtain ⟨c, h1, h2⟩ := look hf
    rcases q with ⟨k, _⟩ | ⟨_, c', e', z⟩
    · have k : X.env.scope.names.lookup y = some .local := k
      rcases ok.blk.free _ (PySem.mem_of_lookup hf) rfl with k' | k' <;> rw [show X.env.scope.names.lookup y = _ from k'] at k <;> cases k
    · rw [h2] at e'; cases e'
      exact ⟨c, h1, z.keeps kp⟩
  · obtain ⟨h1, _⟩ := mem (show cenv.cells.lookup y = some c from e)
    obtain ⟨w, z⟩ := I.cell y c h1
    exact ⟨w, z.keeps kp⟩
  · show H cenv.locals = none
    rw [hL]; exact I.hok.fresh (Nat.le_refl _)
  · exact I.freeC y c (mem (show cenv.cells.lookup y = some c from e)).1
  · have hp : p ∈ ([] : List (Addr × Obj)) ++ [(a, go)] := hp
    have : p = (a, go) := by simpa using hp
    subst this
    refine ⟨ha, I.hok.fresh (Nat.le_of_lt haC), ?_, fun z => ?_, hgc⟩
    · show a ≠ cenv.locals
      rw [hL]; exact Nat.ne_of_gt haC
    · have z : a ∈ frs X.stack := z
      rcases List.mem_cons.mp (I.stkSub a z) with z | z
      · exact absurd (Nat.lt_trans haC (by rw [z]; exact I.lt)) (Nat.lt_irrefl _)
      · exact I.nofs (Nat.le_of_lt haC) z
end

/-! ### its run: what is left of the walk, up to the next yield -/
/-- what a generator's end, a generator's yield tell the one that asks: k0 goes on, the other one ends it -/
abbrev genFin (X' : Cx) (pz : List (Addr × Obj)) (σw : St) (k0 : Bool) (Q : VK) (n : Nat) (sb : Shared) (s1 : Shared) : Prop := ∃ H', Inv X' pz σw H' s1 ∧ Q (.bl k0) H'
abbrev genYld (X' : Cx) (pz : List (Addr × Obj)) (σw : St) (k0 : Bool) (Q : VK) : Protocol := fun n sb v s1 kap =>
  ∃ kk, v = .bool kk ∧ ∃ H', Inv X' pz σw H' s1 ∧ ((kk = !k0 ∧ Q (.bl (!k0)) H') ∨ (kk = k0 ∧ ∀ s2 : Shared, s2.heap = s1.heap → s2.os = s1.os → AllBare s2.gens → kap (.send .none) s2))
section
variable {P : Program} {w : World} {X' : Cx} {A : Around} {elt tg iter : Expr} {ifs : List Expr} {scope : Scope} {pos : Pos} {it : Addr} {fp : List Addr} {tn : Nat → Heap → Prop} {J : It} {pz : List (Addr × Obj)} {σ : St} {vs : List Nat} {g : TG} {tt : TT} {te : TE} {W : Nat → Nat → Hp → Prop} {k0 : Bool} {Q : VK}
theorem gen_loop (hP : X'.prog = P) (hw : X'.w = w) (hA : X'.A = A.over (.compLoop (.GeneratorExp elt [⟨tg, iter, ifs, 0⟩] scope pos) 0 (.ref it) .none X'.env) []) (hc : X'.calm = true) (hxe : X'.xe = fun _ _ => False) (hco : X'.env.scope.isCoroutine = false)
    (T : Turn P w X'.K tg J fp it tn) (pg : PG X' tg g) (pt : PTs X' ifs tt) (pe : PE X' elt te)
    (hex : ∀ b ∈ fp, b ∈ X'.ex) (hpz : ∀ b ∈ fp, ∀ p ∈ X'.pn ++ pz, p.1 ≠ b)
    (turn : ∀ i m H, W i m H → (J.stop i H ∧ Q (.bl k0) H) ∨ (J.go i H ∧ ∃ Nx : Hp → Prop, (∀ H', Nx H' → ∃ m', m' < m ∧ W (i + 1) m' H') ∧ ∀ x H', J.yld i H x H' → g x (wipe σ vs) H' fun σ2 H2 => wipe σ2 vs = wipe σ vs ∧ tt σ2 H2 fun b H3 =>
      if b = true then te σ2 H3 fun y H4 => ∃ kk, y = .bl kk ∧ if kk = k0 then Nx H4 else Q (.bl (!k0)) H4 else Nx H3)) :
    ∀ (m n i : Nat) (sb s5 : Shared) (H5 : Hp), m < n → Inv X' pz (wipe σ vs) H5 s5 → tn i s5.heap → (∀ b ∈ fp, H5 b = none) → W i m H5 →
      Seg (model P w) A (fun n sb r s1 => r = .ok .next ∧ genFin X' pz (wipe σ vs) k0 Q n sb s1) (genYld X' pz (wipe σ vs) k0 Q) n sb (.compLoop (.GeneratorExp elt [⟨tg, iter, ifs, 0⟩] scope pos) 0 (.ref it) .none X'.env)
        ((model P w).den (.compLoop (.GeneratorExp elt [⟨tg, iter, ifs, 0⟩] scope pos) 0 (.ref it) .none X'.env)) [] s5 := by
  subst hP hw
  have stat : ∀ {σ' : St} {H' : Hp} {s' : Shared}, Inv X' pz σ' H' s' → (∀ b ∈ fp, H' b = none) → ∀ b ∈ fp, FpOk X' pz H' b := fun {σ' H' s'} I' hn b hb =>
    ⟨hn b hb, (I'.ok.exf b (hex b hb)).1, I'.ok.exfs b (hex b hb), .inl (hex b hb), fun x c e => (I'.ok.exf b (hex b hb)).2 x c e, hpz b hb⟩
  intro m
  induction m using Nat.strongRecOn with
  | _ m ih =>
    intro n i sb s5 H5 hmn I5 st5 n5 w5
    show Seg _ A _ _ _ sb _ ((compTurn (.GeneratorExp elt [⟨tg, iter, ifs, 0⟩] scope pos) 0 (.ref it) .none X'.env).onRaise (leaving X'.env)) [] s5
    rw [compTurn_gen, Sem.onRaise_eq_wrap]
    refine seg_bind_wrap (wpAny_standAt ?_); have hQ0 := hmn
    rcases turn i m H5 w5 with ⟨stop, qq⟩ | ⟨go, Nx, hNx, step⟩
    · refine seg_bind_wrap ?_; rw [← hA]
      refine thnF (T.done X' rfl rfl rfl hc i pz s5 _ H5 (fun _ _ => False) I5 (stat I5 n5) st5 stop) fun r s6 ⟨hr, I6⟩ => ?_
      subst hr
      exact seg_end (.ok .next) ⟨rfl, H5, I6, qq⟩
    · refine seg_bind_wrap ?_; rw [← hA]
      refine thnF (T.item X' rfl rfl rfl hc i pz s5 _ H5 (fun _ _ => False) I5 (stat I5 n5) st5 go) fun r s6 ⟨u, hr, h6⟩ => ?_
      subst hr
      refine seg_bind_wrap ?_; rw [← hA]
      refine thnF h6 fun _ s7 ⟨x, H7, I7, r7, y7, st7, n7⟩ => ?_
      have I7' := I7.pinned (stat I7 n7) (T.obj _ _ st7)
      refine seg_bind_wrap ?_; rw [← hA]
      have pg' := pg _ s7 _ H7 x u _ I7' r7 (step x H7 y7)
      rw [hxe] at pg'
      refine thnF pg' fun _ s8 ⟨σ8, H8, I8, hw8, q8⟩ => ?_
      refine seg_bind_wrap ?_; rw [← hA]
      have pt' := pt _ s8 σ8 H8 _ I8 q8
      rw [hxe] at pt'
      refine thnF pt' fun b s9 ⟨H9, I9, q9⟩ => ?_
      have fin : ∀ {s' : Shared} {H' : Hp}, Inv X' (pz ++ pinsAt fp s7.heap) σ8 H' s' → Inv X' pz (wipe σ vs) H' s' ∧ tn (i + 1) s'.heap ∧ ∀ b ∈ fp, H' b = none := fun {s' H'} I' => by
        have pin' : ∀ b ∈ fp, ∀ o, s7.heap.get? b = some o → s'.heap.get? b = some o ∧ H' b = none := fun b hb o e =>
          let z := I'.pin (b, o) (List.mem_append_right _ (List.mem_append_right _ (mem_pinsAt hb e)))
          ⟨z.1, z.2.1⟩
        have hl : (wipe σ vs).length = σ8.length := by rw [← hw8, wipe_length]
        refine ⟨(I'.unpinned (pins := pz)).weak hl (fun j v e => ?_), T.keep _ _ _ st7 fun b hb o e => (pin' b hb o e).1, fun b hb => ?_⟩
        · rw [← hw8] at e; exact (wipe_some e).1
        · obtain ⟨o, e, _⟩ := T.obj _ _ st7 b hb
          exact (pin' b hb o e).2
      cases b with
      | false =>
        simp only [Bool.false_eq_true, if_false] at q9 ⊢
        obtain ⟨m', hm, w'⟩ := hNx _ q9
        obtain ⟨J1, J2, J3⟩ := fin I9
        exact seg_again rfl (ih m' hm n (i + 1) sb s9 H9 (Nat.lt_trans hm hmn) J1 J2 J3 w')
      | true =>
        simp only [if_true] at q9 ⊢
        have hy : ∀ v, yieldOut X'.env v = yieldValue v := fun v => by simp only [yieldOut, hco, Bool.false_eq_true, if_false]
        simp only [hy]; rw [Sem.bind_eq_wrap', Sem.bind_eq_wrap', Sem.wrap_wrap, Sem.wrap_wrap]
        refine seg_wrap ?_; rw [← hA]
        have pe' := pe _ s9 σ8 H9 _ I9 q9
        rw [hxe] at pe'
        refine thnF pe' fun z s10 ⟨yv, H10, I10, r10, kk, hyv, q10⟩ => ?_
        subst hyv
        obtain rfl : z = Value.bool kk := r10
        obtain ⟨J1, J2, J3⟩ := fin I10
        obtain ⟨n', rfl⟩ : ∃ n', n = n' + 1 := ⟨n - 1, by omega⟩
        refine seg_at (seg_yield rfl rfl rfl ⟨kk, rfl, H10, J1, ?_⟩)
        by_cases hk : kk = k0
        · rw [if_pos hk] at q10
          obtain ⟨m', hm, w'⟩ := hNx _ q10
          refine .inr ⟨hk, fun s2 e1 e2 e3 => ?_⟩
          exact seg_again rfl (ih m' hm n' (i + 1) s2 s2 H10 (by omega) (J1.same e1 e2 e3) (by rw [e1]; exact J2) J3 w')
        · rw [if_neg hk] at q10
          exact .inl ⟨by cases kk <;> cases k0 <;> first | rfl | exact absurd rfl hk, q10⟩
theorem gen_seg {n : Nat} {sb s5 : Shared} (hx : X'.prog = P) (hw : X'.w = w) (T : Turn P w X'.K tg J fp it tn) {i : Nat} (st : tn i s5.heap) {R : GenEnd} {Y : Protocol}
    (loop : Seg (model P w) A R Y n sb (.compLoop (.GeneratorExp elt [⟨tg, iter, ifs, 0⟩] scope pos) 0 (.ref it) .none X'.env) ((model P w).den (.compLoop (.GeneratorExp elt [⟨tg, iter, ifs, 0⟩] scope pos) 0 (.ref it) .none X'.env)) [] s5) :
    Seg (model P w) A R Y n sb (.compStart (.GeneratorExp elt [⟨tg, iter, ifs, 0⟩] scope pos) 0 (.ref it) .none X'.env) ((model P w).den (.compStart (.GeneratorExp elt [⟨tg, iter, ifs, 0⟩] scope pos) 0 (.ref it) .none X'.env)) [] s5 := by
  show Seg _ A _ _ _ sb _ ((compStart (.GeneratorExp elt [⟨tg, iter, ifs, 0⟩] scope pos) 0 (.ref it) .none X'.env).onRaise (leaving X'.env)) [] s5
  unfold compStart; rw [Sem.onRaise_eq_wrap]
  show Seg _ A _ _ _ sb _ ((ask >>= _).wrap _ _ _ _) [] s5
  refine seg_bind_wrap (wpAny_askSetting ?_); split
  · exact seg_again rfl loop
  · refine seg_bind_wrap (wpAny_rule ?_); show Seg _ A _ _ _ sb _ ((standAt iter.pos >>= _).wrap _ _ _ _) [] s5
    exact seg_bind_wrap (wpAny_standAt (seg_bind_wrap (T.self _ i s5 _ _ st (seg_again rfl loop))))
end

/-! ### the table of a code object -/
/-- the code object that runs, with its table -/
structure CodeAt (base : Heap) (code : Value) (P : Addr) : Prop where
  ex : ∃ (c : Addr) (o : Obj) (vs : Array Value) (file : Str) (tf : Tok) (flags : Int) (tg : Tok) (inF : Bool) (text : Int) (tt : Tok), code = .ref c ∧ base.get? c = some o ∧ o.data = .fields vs ∧ vs.getD 11 .none = .ref P ∧ vs.getD 18 .none = .str file tf ∧
    vs.getD 7 .none = .int flags tg ∧ vs.getD 9 .none = .bool inF ∧ vs.getD 10 .none = .int text tt
theorem upd_id {H : Hp} {a : Addr} {o : HO} (h : H a = some o) : upd H a o = H := by
  funext b
  by_cases hb : b = a
  · rw [hb, upd_same, h]
  · rw [upd_ne hb]
theorem code_ok {X : Cx} {pins : List (Addr × Obj)} {σ : St} {H : Hp} {s : Shared} {T : Addr} {ps : Array Value} {ps0 : Pos} {qn : Str} {scope : Scope} {E : Value → Shared → Prop} {Q : Value → Shared → Prop} (I : Inv X pins σ H s) (hC : CodeAt X.base X.env.code T) (hT : H T = some (TabO T ps))
    (hQ : ∀ code s', Inv X pins σ H s' → (∀ b o, H b = none → s.heap.get? b = some o → s'.heap.get? b = some o) → s.heap.objs.size ≤ s'.heap.objs.size → s'.gens = s.gens → Q code s') : wpAny (model X.prog X.w) X.A (genexprCode X.env ps0 qn scope) Q E s := by
  obtain ⟨c, o, vs, file, tf, flags, tg, inF, text, tt, hc, lk, hd, h11, h18, h7, h9, h10⟩ := hC.ex
  obtain ⟨⟨more, hP, htr⟩, _, stab⟩ := I.hok T _ hT
  have ho := I.bk c o lk
  have hcn : H c = none := (I.bs c o lk).2
  have hne : c ≠ T := fun z => by rw [z, hT] at hcn; cases hcn
  have hcode : s.heap.IsCode c T (ps ++ more) := ⟨o, vs, file, tf, flags, tg, inF, text, tt, _, ho, hd, h11, h18, h7, h9, h10, hP, rfl, htr, hne⟩
  unfold genexprCode codeAt
  rw [hc, if_neg (show ¬ ((Value.ref c == Value.none) = true) from Bool.false_ne_true)]
  refine wpAny_bind (wpAny_fieldsOf ho hd ?_); rw [h11]
  refine wpAny_bind (wpAny_fieldsOf hP rfl ?_)
  cases hnf : codeAmong ps0 (ps ++ more).toList with
  | some cv => exact wpAny_pure (hQ cv s I (fun _ _ _ e => e) (Nat.le_refl _) rfl)
  | none =>
    rw [h18, h7, h9, h10]
    refine wpAny_bind (wpAny_newCode fun c' P' h' tk hk hc' hP' hcode' hrec' => ?_)
    have hop' := hk _ _ hP
    refine wpAny_bind (wpAny_updateFieldsOfTheText hop' rfl ?_)
    have hob : Obj.mapFields (fun vs => if (codeAmong ps0 vs.toList).isSome = true then vs else vs ++ #[rawInt ps0.line, rawInt ps0.col, .ref c']) { cls := .none, data := .fields (ps ++ more) } = { cls := .none, data := .fields (ps ++ (more ++ #[rawInt ps0.line, rawInt ps0.col, .ref c'])) } := by
      simp only [Obj.mapFields, hnf]
      rw [Array.append_assoc]; rfl
    have hget := Heap.get?_update_self (h := h') (fun o => Obj.mapFields (fun vs => if (codeAmong ps0 vs.toList).isSome = true then vs else vs ++ #[rawInt ps0.line, rawInt ps0.col, .ref c']) o) hop' (by rw [hob]; rfl)
    rw [hob] at hget
    refine wpAny_bind (wpAny_fieldsOf hget rfl ?_)
    have hl : (ps ++ (more ++ #[rawInt ps0.line, rawInt ps0.col, Value.ref c'])).toList = (ps ++ more).toList ++ [rawInt ps0.line, rawInt ps0.col, .ref c'] := by simp
    rw [hl, codeAmong_snoc _ htr hnf]
    have kk : ∀ b o, b ≠ T → s.heap.get? b = some o → (h'.update T fun o => Obj.mapFields (fun vs => if (codeAmong ps0 vs.toList).isSome = true then vs else vs ++ #[rawInt ps0.line, rawInt ps0.col, .ref c']) o).get? b = some o := fun b o hb e => (Heap.SameBut.update ..).extBut b o hb (hk b o e)
    refine wpAny_pure (hQ _ _ ?_ (fun b o n e => kk b o (fun z => by rw [z, hT] at n; cases n) e) ?_ rfl)
    · have I' := I.write (x := T) (e := T) (o := TabO T ps) (t' := tk) (by rw [hT]; trivial) (.inl rfl) kk ⟨_, hget⟩ ⟨⟨_, hget, by rw [hl]; exact TriplesOk_snoc _ _ _ _ htr⟩, ⟨_, hget⟩, stab⟩
      rw [upd_id hT] at I'
      exact I'
    · show s.heap.objs.size ≤ (h'.update T _).objs.size
      rw [Heap.size_after_update]
      exact Nat.le_trans hc' (Nat.le_of_lt hcode'.lt.1)
end L2

set_option Elab.async false
set_option linter.all false
set_option maxRecDepth 100000
set_option maxHeartbeats 4000000
namespace L2
open PySem PySem.Spec PyProof.Rows
theorem bare_set {gs : Array GenState} {g : Nat} {x : GenState} (h : AllBare gs) (hx : x.bare = true) : AllBare (gs.setIfInBounds g x) := by
  intro y hy
  rcases Array.mem_or_eq_of_mem_setIfInBounds hy with z | z
  · exact h y z
  · rw [z]; exact hx
theorem setGen_at {s : Shared} {g : Nat} {x : GenState} (h : g < s.gens.size) : (s.setGen g x).gens[g]? = some x := by
  unfold Shared.setGen
  simp [Array.getElem?_setIfInBounds, h]
section
variable {X' : Cx} {A : Around} {σw : St} {Q : VK} {a : Addr} {g : Nat} {ob : Obj}
/-- one asking of a generator -/
theorem gen_next {k0 : Bool} {n : Nat} {s : Shared} {H' : Hp} {gs : GenState} {E : Value → Shared → Prop} (hh : A.handled = none) (hroom : A.depth < recursionLimit) (hob : ∀ h : Heap, h.get? a = some ob → h.IsGen a g)
    (I : Inv X' [(a, ob)] σw H' s) (hgs : s.gens[g]? = some gs)
    (hgo : ∀ s2 : Shared, s2.heap = s.heap → s2.os = s.os → AllBare s2.gens → gs.Goes (model X'.prog X'.w) A.in1 (fun n sb r s1 => r = .ok .next ∧ genFin X' [(a, ob)] σw k0 Q n sb s1) (genYld X' [(a, ob)] σw k0 Q) n (.send .none) s2) :
    wpAny (model X'.prog X'.w) A (pyNext (.ref a)) (fun r s1 => match r with
      | none => ∃ H1, Inv X' [(a, ob)] σw H1 s1 ∧ Q (.bl k0) H1
      | some v => ∃ kk, v = .bool kk ∧ ∃ H1, Inv X' [(a, ob)] σw H1 s1 ∧ ((kk = !k0 ∧ Q (.bl (!k0)) H1) ∨ (kk = k0 ∧ ∃ m gs1, n = m + 1 ∧ s1.gens[g]? = some gs1 ∧
          ∀ s2 : Shared, s2.heap = s1.heap → s2.os = s1.os → AllBare s2.gens → gs1.Goes (model X'.prog X'.w) A.in1 (fun n sb r s1 => r = .ok .next ∧ genFin X' [(a, ob)] σw k0 Q n sb s1) (genYld X' [(a, ob)] σw k0 Q) m (.send .none) s2))) E s := by
  have hlt : g < s.gens.size := by
    rcases Nat.lt_or_ge g s.gens.size with h' | h'
    · exact h'
    · rw [Array.getElem?_eq_none h'] at hgs; cases hgs
  have hpin := (I.pin (a, ob) (List.mem_append_right _ (by simp))).1
  have key : wpAny (model X'.prog X'.w) A (pyNext (.ref a)) (fun r s1 => match r with
      | none => ∃ H1, Inv X' [(a, ob)] σw H1 s1 ∧ Q (.bl k0) H1
      | some v => ∃ kk, v = .bool kk ∧ ∃ H1, Inv X' [(a, ob)] σw H1 s1 ∧ ((kk = !k0 ∧ Q (.bl (!k0)) H1) ∨ (kk = k0 ∧ ∃ m gs1, n = m + 1 ∧ (g < s1.gens.size → s1.gens[g]? = some gs1) ∧
          ∀ s2 : Shared, s2.heap = s1.heap → s2.os = s1.os → AllBare s2.gens → gs1.Goes (model X'.prog X'.w) A.in1 (fun n sb r s1 => r = .ok .next ∧ genFin X' [(a, ob)] σw k0 Q n sb s1) (genYld X' [(a, ob)] σw k0 Q) m (.send .none) s2))) E s := by
    refine wpAny_pyNext_genexpQ (P := genFin X' [(a, ob)] σw k0 Q) (Y := genYld X' [(a, ob)] σw k0 Q) (n := n) hh I.nolimit hroom (hob _ hpin) hgs (hgo _ rfl rfl (bare_set I.bare rfl)) (fun v s1 gs1 hb hv => ?_) (fun s1 hp h1 hk => ?_)
    · obtain ⟨kk, rfl, H1, I1, hq⟩ := hv
      refine ⟨kk, rfl, H1, I1.same rfl rfl (bare_set I1.bare hb), ?_⟩
      rcases hq with hq | ⟨hk, hq⟩
      · exact .inl hq
      · cases n with
        | zero => exact (hq s1 rfl rfl I1.bare).elim
        | succ m => exact .inr ⟨hk, m, gs1, rfl, fun hl => setGen_at (by simpa [Shared.setGen] using hl), fun s2 e1 e2 e3 => hq s2 e1 e2 e3⟩
    · obtain ⟨H1, I1, q1⟩ := hp
      exact ⟨H1, (I1.kept (h' := h1) (t' := s1.toks) hk).same rfl rfl (bare_set I1.bare rfl), q1⟩
  refine thn (wpAny_gens (n := g + 1) hlt key) fun r s1 ⟨hsz, hr⟩ => ?_
  cases r with
  | none => exact hr
  | some v =>
    obtain ⟨kk, e, H1, I1, hq⟩ := hr
    refine ⟨kk, e, H1, I1, ?_⟩
    rcases hq with hq | ⟨hk, m, gs1, e1, e2, e3⟩
    · exact .inl hq
    · exact .inr ⟨hk, m, gs1, e1, e2 hsz, e3⟩
theorem any_loop {Rz : Result → Shared → Prop} (hh : A.handled = none) (hroom : A.depth < recursionLimit) (hob : ∀ h : Heap, h.get? a = some ob → h.IsGen a g)
    (fin : ∀ (b : Bool) (s1 : Shared) (H1 : Hp), Inv X' [(a, ob)] σw H1 s1 → Q (.bl b) H1 → Rz (.ok (.ret (.bool b))) s1) :
    ∀ (n : Nat) (s : Shared) (H' : Hp) (gs : GenState), Inv X' [(a, ob)] σw H' s → s.gens[g]? = some gs →
      (∀ s2 : Shared, s2.heap = s.heap → s2.os = s.os → AllBare s2.gens → gs.Goes (model X'.prog X'.w) A.in1.in1 (fun n sb r s1 => r = .ok .next ∧ genFin X' [(a, ob)] σw false Q n sb s1) (genYld X' [(a, ob)] σw false Q) n (.send .none) s2) →
      codeAny (model X'.prog X'.w) A (.builtin "any.loop" ⟨[.ref a], []⟩) Rz s := by
  intro n
  induction n with
  | zero =>
    intro s H' gs I hgs hgo
    refine codeAny_builtin F.entry_any_loop ?_; rw [Around.under_plainId F.plain_any_loop _]
    show wpAny _ A.in1 (pyNext (.ref a) >>= _) _ _ s
    refine wpAny_bind (thn (gen_next (A := A.in1) hh hroom hob I hgs hgo) fun r s1 hr => ?_)
    cases r with
    | none =>
      obtain ⟨H1, I1, q1⟩ := hr
      exact wpAny_bind (wpAny_rule (wpAny_pure (fin false s1 H1 I1 q1)))
    | some v =>
      obtain ⟨kk, rfl, H1, I1, ⟨hk, q⟩ | ⟨hk, m, gs1, e1, _⟩⟩ := hr
      · subst hk
        refine wpAny_bind (wpAny_holding (wpAny_of_eq (rfl : truthy (.bool true) = pure true) ?_)); refine wpAny_bind (wpAny_letGo ?_)
        exact wpAny_bind (wpAny_rule (wpAny_pure (fin true s1 H1 I1 q)))
      · cases e1
  | succ n ih =>
    intro s H' gs I hgs hgo
    refine codeAny_builtin F.entry_any_loop ?_; rw [Around.under_plainId F.plain_any_loop _]
    show wpAny _ A.in1 (pyNext (.ref a) >>= _) _ _ s
    refine wpAny_bind (thn (gen_next (A := A.in1) hh hroom hob I hgs hgo) fun r s1 hr => ?_)
    cases r with
    | none =>
      obtain ⟨H1, I1, q1⟩ := hr
      exact wpAny_bind (wpAny_rule (wpAny_pure (fin false s1 H1 I1 q1)))
    | some v =>
      obtain ⟨kk, rfl, H1, I1, ⟨hk, q⟩ | ⟨hk, m, gs1, e1, e2, e3⟩⟩ := hr
      · subst hk
        refine wpAny_bind (wpAny_holding (wpAny_of_eq (rfl : truthy (.bool true) = pure true) ?_)); refine wpAny_bind (wpAny_letGo ?_)
        exact wpAny_bind (wpAny_rule (wpAny_pure (fin true s1 H1 I1 q)))
      · subst hk; cases e1
        refine wpAny_bind (wpAny_holding (wpAny_of_eq (rfl : truthy (.bool false) = pure false) ?_)); refine wpAny_bind (wpAny_letGo ?_)
        exact wpAny_pure ⟨plainId_quiet F.plain_any_loop _, ih s1 H1 gs1 I1 e2 e3⟩
end
end L2

set_option Elab.async false
set_option linter.all false
set_option maxRecDepth 100000
set_option maxHeartbeats 4000000
namespace L2
open PySem PySem.Spec PyProof.Rows
/-- the name __builtins__ of the module -/
structure BltAt (base : Heap) (mg : Str → Option Value) : Prop where
  ex : ∃ (bm : Addr) (ob : Obj), mg "__builtins__" = some (.ref bm) ∧ bm ≠ builtinsNs ∧ base.get? bm = some ob ∧ ob.cls = .type "module" ∧ ob.dict = some builtinsNs ∧ ob.data = .plain
/-- all(elt for target in iter if ..) with k0 = true, any(..) with k0 = false: W by the turn and a measure, Nx what a turn is to reach; T the table of the code that runs -/
def tGen (T : Addr) (k0 : Bool) (wi : TI) (g : TG) (tt : TT) (te : TE) (vs : List Nat) : TE := fun σ H Q => wi σ H fun J H1 => (∃ ps, H1 T = some (TabO T ps)) ∧ ∃ W : Nat → Nat → Hp → Prop, (∃ m, W 0 m H1) ∧
  ∀ i m H, W i m H → (J.stop i H ∧ Q (.bl k0) H) ∨ (J.go i H ∧ ∃ Nx : Hp → Prop, (∀ H', Nx H' → ∃ m', m' < m ∧ W (i + 1) m' H') ∧ ∀ x H', J.yld i H x H' → g x (wipe σ vs) H' fun σ2 H2 => wipe σ2 vs = wipe σ vs ∧ tt σ2 H2 fun b H3 =>
      if b = true then te σ2 H3 fun y H4 => ∃ kk, y = .bl kk ∧ if kk = k0 then Nx H4 else Q (.bl (!k0)) H4 else Nx H3)
section
variable {X : Cx}
theorem gen_core {pins : List (Addr × Obj)} {s : Shared} {σ : St} {H : Hp} {Q : VK} {k : Nat} {T : Addr} {k0 : Bool} {elt tg iter : Expr} {ifs : List Expr} {scope : Scope} {own : List (Str × Nat)} {pos : Pos} {wi : TI} {g : TG} {tt : TT} {te : TE} {Qf : Value → Shared → Prop}
    (hc : X.calm = true) (hN : X.N.Nodup) (hr : Room (k + 1) X.A) (hC : CodeAt X.base X.env.code T) (hB : BltAt X.base X.mg) (I : Inv X pins σ H s) (hi : PI X tg iter wi) (ok : GenOk X.N X.env.scope scope own)
    (hg : ∀ (A : Around) (s : Shared) (H : Hp) (C : Addr) (cl : List (Str × Addr)) (code : Value) (fp : List Addr), Room k A → PG (X.gen A s H (genEnv scope cl C code builtinsNs X.env) fp) tg g)
    (ht : ∀ (A : Around) (s : Shared) (H : Hp) (C : Addr) (cl : List (Str × Addr)) (code : Value) (fp : List Addr), Room k A → PTs (X.gen A s H (genEnv scope cl C code builtinsNs X.env) fp) ifs tt)
    (he : ∀ (A : Around) (s : Shared) (H : Hp) (C : Addr) (cl : List (Str × Addr)) (code : Value) (fp : List Addr), Room k A → PE (X.gen A s H (genEnv scope cl C code builtinsNs X.env) fp) elt te)
    (hs : ∀ x, genFold iter X.env x = pure x) (h : tGen T k0 wi g tt te (own.map (·.2)) σ H Q)
    (hRR : ∀ (a : Addr) (n : Nat) (ob : Obj) (gs : GenState) (gn : Nat) (X' : Cx) (σw : St) (H' : Hp) (s' : Shared), X'.prog = X.prog → X'.w = X.w → (∀ h : Heap, h.get? a = some ob → h.IsGen a gn) → Inv X' [(a, ob)] σw H' s' → s'.gens[gn]? = some gs →
      (∀ s2 : Shared, s2.heap = s'.heap → s2.os = s'.os → AllBare s2.gens → gs.Goes (model X'.prog X'.w) X.A.in1.in1 (fun n sb r s1 => r = .ok .next ∧ genFin X' [(a, ob)] σw k0 Q n sb s1) (genYld X' [(a, ob)] σw k0 Q) n (.send .none) s2) →
      (∀ (s1 : Shared) (H1 : Hp), Inv X' [(a, ob)] σw H1 s1 → Inv X pins σ H1 s1) → Qf (.ref a) s') :
    wpAny (model X.prog X.w) X.A (eval (.GeneratorExp elt [⟨tg, iter, ifs, 0⟩] scope pos) X.env) Qf X.xe s := by
  have hfree : ∀ y ∈ scope.names, y.2 = .free → ∃ c, X.env.cells.lookup y.1 = some c := fun y hy e => by
    rcases ok.blk.free y hy e with k | k
    · exact I.ok.has _ (.inl k)
    · exact I.ok.has _ (.inr k)
  refine wpAny_GeneratorExp_make ok.co (closure_ok hfree) ok.nocell ok.dot ok.blk.kind hr.depth (thn (hi pins s σ H _ I h) fun xv s1 hx => thn hx fun itv s2 h2 => ?_) hs
  obtain ⟨it, fp, tn, J, H2, e, I2, Tn, st2, f2, ⟨ps, hT⟩, W, ⟨m0, w0⟩, turn⟩ := h2
  subst e
  refine ⟨I2.nolimit, code_ok I2 hC hT fun code s3 I3 kp3 sz3 gn3 => ?_⟩
  obtain ⟨bm, ob, hb1, hb2, hb3, hb4, hb5, hb6⟩ := hB.ex
  have hglob : s3.heap.Ns X.env.globals X.mg := by rw [I3.ok.glob]; exact I3.mod.glob.keeps I3.bk
  refine wpAny_builtinsFor hglob hb1 hb2 (I3.bk _ _ hb3) hb4 hb5 hb6 fun h' hn' hs' => ?_
  have hsz : h'.objs.size = s3.heap.objs.size + 1 := by rw [hs'.1, Heap.size_push]
  have kp' : ∀ b o, s3.heap.get? b = some o → h'.get? b = some o := fun b o e => hs'.extBut b o (Nat.ne_of_lt (Heap.lt_size e)) (Heap.get?_push_of_some _ e)
  have fpn : ∀ b ∈ fp, H2 b = none := fun b hb => (f2 b hb).1
  have f3 : ∀ b ∈ fp, FpOk X pins H2 b ∧ b < s3.heap.objs.size := fun b hb => by
    obtain ⟨o, e, _⟩ := Tn.obj _ _ st2 b hb
    exact ⟨f2 b hb, Nat.lt_of_lt_of_le (Heap.lt_size e) sz3⟩
  have st3 : tn 0 s3.heap := Tn.keep _ _ _ st2 fun b hb o e => kp3 b o (fpn b hb) e
  generalize hcl : cloFrom X.env.cells scope.names [] = cl
  generalize hgo : ({ cls := .type "generator", data := .fields #[.int s3.gens.size 0, .str "<genexpr>" (s3.toks + 1), .str (X.env.qual ++ "<genexpr>") (s3.toks + 1 + 1)] } : Obj) = go
  have hfr := over_frames (A := X.A.in1.in1) (elt := elt) (gs := [⟨tg, iter, ifs, 0⟩]) (sc := scope) (ps := pos) (it := .ref it) (acc := .none) (ce := genEnv scope cl s3.heap.objs.size code builtinsNs X.env) (show X.A.in1.in1.frames = some X.stack from I3.ok.frames)
  have hrm : Room k (X.A.in1.in1.over (.compLoop (.GeneratorExp elt [⟨tg, iter, ifs, 0⟩] scope pos) 0 (.ref it) .none (genEnv scope cl s3.heap.objs.size code builtinsNs X.env)) []) := hr.gen
  generalize hA : X.A.in1.in1.over (.compLoop (.GeneratorExp elt [⟨tg, iter, ifs, 0⟩] scope pos) 0 (.ref it) .none (genEnv scope cl s3.heap.objs.size code builtinsNs X.env)) [] = A' at hfr hrm
  have I5 := gen_start (A := A') (fp := fp) (code := code) (itv := .ref it) (h5 := h'.push go) (g5 := s3.gens.push (.fresh (.compStart (.GeneratorExp elt [⟨tg, iter, ifs, 0⟩] scope pos) 0 (.ref it) .none (genEnv scope cl s3.heap.objs.size code builtinsNs X.env)))) (t5 := s3.toks + 1 + 1 + 1) (a := h'.objs.size) (go := go) I3 ok hN f3 (fun _ => hrm.hd) (by rw [hcl]; exact hfr)
    (hn'.push _) (fun b o e => Heap.get?_push_of_some _ (kp' b o e)) (I3.bare.push rfl) (by rw [← hgo]; exact Heap.get?_push_size _ rfl) (by rw [hsz]; exact Nat.lt_succ_self _) (fun v z => by rw [← hgo] at z; cases z)
  rw [hcl] at I5
  refine hRR h'.objs.size (m0 + 1) go _ s3.gens.size (X.gen A' s3 H2 (genEnv scope cl s3.heap.objs.size code builtinsNs X.env) fp) (wipe σ (own.map (·.2))) H2 _ rfl rfl (fun h e => ⟨_, _, _, e, by rw [← hgo], by rw [← hgo], by rw [← hgo]⟩) I5 (Array.getElem?_push_size ..) (fun s2 e1 e2 e3 => ⟨rfl, ?_⟩) fun s1 H1 J1 => ?_
  · have st5 : tn 0 s2.heap := by rw [e1]; exact Tn.keep _ _ _ st3 fun b _ o e => Heap.get?_push_of_some _ (kp' b o e)
    refine gen_seg (X' := X.gen A' s3 H2 (genEnv scope cl s3.heap.objs.size code builtinsNs X.env) fp) rfl rfl Tn st5 ?_
    refine gen_loop (X' := X.gen A' s3 H2 (genEnv scope cl s3.heap.objs.size code builtinsNs X.env) fp) (σ := σ) (vs := own.map (·.2)) (W := W) rfl rfl hA.symm hc rfl ok.co Tn (hg A' _ _ _ _ _ _ hrm) (ht A' _ _ _ _ _ _ hrm) (he A' _ _ _ _ _ _ hrm) (fun b hb => hb) (fun b hb p hp => ?_) turn m0 (m0 + 1) 0 s2 s2 H2 (Nat.lt_succ_self _) (I5.same e1 e2 e3) st5 fpn w0
    have hp : p ∈ ([] : List (Addr × Obj)) ++ [(h'.objs.size, go)] := hp
    have : p = (h'.objs.size, go) := by simpa using hp
    rw [this]
    exact Nat.ne_of_gt (by rw [hsz]; exact Nat.lt_succ_of_lt (f3 b hb).2)
  · exact I3.call' (ch := fp) J1.os J1.base J1.hok J1.bare fun b hb => ⟨(f3 b hb).1.2.2.2.1, (f3 b hb).1.2.1, (f3 b hb).1.2.2.2.2.1, (f3 b hb).1.2.2.2.2.2⟩
theorem pe_any {k : Nat} {T : Addr} {elt tg iter : Expr} {ifs : List Expr} {scope : Scope} {own : List (Str × Nat)} {p pos gpos : Pos} {wi : TI} {g : TG} {tt : TT} {te : TE}
    (hc : X.calm = true) (hN : X.N.Nodup) (hr : Room (k + 1) X.A) (hC : CodeAt X.base X.env.code T) (hB : BltAt X.base X.mg) (hgl : Gl X "any") (hm : X.mg "any" = none) (hi : PI X tg iter wi) (ok : GenOk X.N X.env.scope scope own)
    (hg : ∀ (A : Around) (s : Shared) (H : Hp) (C : Addr) (cl : List (Str × Addr)) (code : Value) (fp : List Addr), Room k A → PG (X.gen A s H (genEnv scope cl C code builtinsNs X.env) fp) tg g)
    (ht : ∀ (A : Around) (s : Shared) (H : Hp) (C : Addr) (cl : List (Str × Addr)) (code : Value) (fp : List Addr), Room k A → PTs (X.gen A s H (genEnv scope cl C code builtinsNs X.env) fp) ifs tt)
    (he : ∀ (A : Around) (s : Shared) (H : Hp) (C : Addr) (cl : List (Str × Addr)) (code : Value) (fp : List Addr), Room k A → PE (X.gen A s H (genEnv scope cl C code builtinsNs X.env) fp) elt te)
    (hs : ∀ x, genFold iter X.env x = pure x := by intro _; rfl) :
    PE X (.Call (.Name "any" p) [.GeneratorExp elt [⟨tg, iter, ifs, 0⟩] scope gpos] [] pos) (tGen T false wi g tt te (own.map (·.2))) := by
  intro pins s σ H Q I h
  refine wpAny_Call_Name_kw (ld_blt I hgl hm boot_any ?_ (by decide) (by decide))
  refine PyProof.Rows.callWith_builtin1 ?_ rfl rfl
  show wpAny _ _ (spliced [(false, eval (.GeneratorExp elt [⟨tg, iter, ifs, 0⟩] scope gpos) X.env)]) _ _ s
  refine Calls.spliced_cons (gen_core (Qf := fun v s1 => wpAny (model X.prog X.w) X.A (spliced []) (fun vs s2 => wpAny (model X.prog X.w) X.A (call (.builtin "any") (v :: vs)) (EP X pins σ Q) X.xe s2) X.xe s1) hc hN hr hC hB I hi ok hg ht he hs h fun a n ob gs gn X' σw H' s' e1 e2 hob I' hgs hgo back => ?_)
  refine Calls.spliced_nil ?_
  have hpin := (I'.pin (a, ob) (List.mem_append_right _ (by simp))).1
  refine call_function_tree F.kind_any F.plain_any F.entry_any (F.args_any1 _) ?_; unfold Builtin.«any»
  refine wpAny_bind (m := oneArg "any" _) (wpAny_pure ?_); refine wpAny_bind (wpAny_pyIter_gen (hob _ hpin) ?_)
  rw [← e1, ← e2]
  exact wpAny_pure ⟨plainId_quiet F.plain_any_loop _, any_loop (X' := X') (A := X.A) hr.hd hr.depth hob (fun b s1 H1 J q => ⟨.bl b, H1, back s1 H1 J, rfl, q⟩) n s' H' gs I' hgs hgo⟩
end
end L2

set_option Elab.async false
set_option linter.all false
set_option maxRecDepth 100000
set_option maxHeartbeats 4000000
namespace Mir
open PySem PySem.Spec L2
variable {X : Cx} {a b c e o tg : Expr} {es rest : List Expr} {pos : Pos} {ma mb mc me mo : mE} {K : PySem.W.Frag} {ta tb : mT} {mr : mA} {st : Stmt} {sts : List Stmt} {m1 m2 : mS}
open Classical in
noncomputable def genM (k0 : Bool) (gd : List (Nat × MO)) (g : mG) (tt : mT) (te : mE) (δ : DSt) : List D → Mem → Option (Bool × Mem)
  | [], M => if Guarded M gd then some (k0, M) else none
  | d :: r, M => if Guarded M gd then (g d δ).bind fun δ1 => (tt δ1 M).bind fun t => if t.1 = true then (te δ1 t.2).bind fun y => match y.1 with
      | .bl kk => if kk = k0 then genM k0 gd g tt te δ r y.2 else some (!k0, y.2)
      | _ => none
    else genM k0 gd g tt te δ r t.2 else none
theorem genM_nil {k0 gd g tt te δ} {M : Mem} (h : Guarded M gd) : genM k0 gd g tt te δ [] M = some (k0, M) := by unfold genM; rw [if_pos h]
theorem genM_cons {k0 gd g tt te δ d r} {M : Mem} (h : Guarded M gd) : genM k0 gd g tt te δ (d :: r) M = (g d δ).bind fun δ1 => (tt δ1 M).bind fun t => if t.1 = true then (te δ1 t.2).bind fun y => match y.1 with
      | .bl kk => if kk = k0 then genM k0 gd g tt te δ r y.2 else some (!k0, y.2)
      | _ => none
    else genM k0 gd g tt te δ r t.2 := by
  conv => lhs; unfold genM
  rw [if_pos h]
theorem genM_guard {k0 gd g tt te δ l} {M : Mem} {x} (h : genM k0 gd g tt te δ l M = some x) : Guarded M gd := by
  cases l with
  | nil => unfold genM at h; split at h; assumption; cases h
  | cons d r => unfold genM at h; split at h; assumption; cases h
/-- all(..), any(..) over a generator expression -/
noncomputable def mGen (k0 : Bool) (mi : mI) (g : mG) (tt : mT) (te : mE) (vs : List Nat) : mE := fun δ M => (mi δ M).bind fun r => (genM k0 r.1.guard g tt te (wipeD δ vs) r.1.items r.2).map fun q => (.bl q.1, q.2)
theorem gen_imp {T : Addr} (hT : T ∈ tabsOf X.K) {k0 : Bool} {mi : mI} {g : mG} {tt : mT} {te : mE} {vs : List Nat} {σ : St} {H : Hp} {Q : VK} (h : tM X.K (mGen k0 mi g tt te vs) σ H Q) :
    tGen T k0 (tMI X.K mi) (tMG X.K g vs) (tMT X.K tt) (tM X.K te) vs σ H Q := by
  obtain ⟨ι, δ, M, d, M', hs, hm, he, k⟩ := h
  unfold mGen at he
  cases e1 : mi δ M with
  | none => rw [e1] at he; cases he
  | some r =>
    obtain ⟨⟨items, gd⟩, M0⟩ := r
    rw [e1] at he
    simp only [Option.bind_some] at he
    cases e2 : genM k0 gd g tt te (wipeD δ vs) items M0 with
    | none => rw [e2] at he; cases he
    | some q =>
      obtain ⟨out, Me⟩ := q
      rw [e2] at he
      simp only [Option.map_some] at he
      cases he
      refine ⟨ι, δ, M, ⟨items, gd⟩, M0, hs, hm, e1, fun ι0 H0 J l0 hm0 hJ => ⟨hm0.tb T hT, ?_⟩⟩
      refine ⟨fun i m H => m = items.length - i ∧ i ≤ items.length ∧ ∃ ι1 M1, Le X.K ι0 H0 ι1 H ∧ RelM X.K ι1 H M1 ∧ genM k0 gd g tt te (wipeD δ vs) (items.drop i) M1 = some (out, M'), ⟨_, rfl, Nat.zero_le _, ι0, M0, .refl, hm0, e2⟩, ?_⟩
      rintro i m H1 ⟨rfl, hil, ι1, M1, l1, hm1, hl⟩
      have gdd := genM_guard hl
      have hj := hJ ι1 H1 M1 l1 hm1 gdd i
      by_cases hlt : i < items.length
      · have ed : items.drop i = items[i] :: items.drop (i + 1) := List.drop_eq_getElem_cons hlt
        rw [ed, genM_cons gdd] at hl
        obtain ⟨go, hy⟩ := hj.1 _ (List.getElem?_eq_getElem hlt)
        cases eg : g items[i] (wipeD δ vs) with
        | none => rw [eg] at hl; cases hl
        | some δ2 =>
          rw [eg] at hl
          cases et : tt δ2 M1 with
          | none => simp only [et, Option.bind_some, Option.bind_none] at hl; cases hl
          | some q =>
            obtain ⟨b, M2⟩ := q
            simp only [et, Option.bind_some] at hl
            refine .inr ⟨go, fun H' => ∃ ι3 M3, Le X.K ι0 H0 ι3 H' ∧ RelM X.K ι3 H' M3 ∧ genM k0 gd g tt te (wipeD δ vs) (items.drop (i + 1)) M3 = some (out, M'), fun H' h' => ⟨items.length - (i + 1), by omega, rfl, hlt, h'⟩, fun x H2 y => ?_⟩
            obtain ⟨ι2, l2, hm2, rx⟩ := hy x H2 y
            refine ⟨ι2, wipeD δ vs, items[i], δ2, wipe_rel (hs.mono (l0.trans (l1.trans l2))), rx, eg, fun σ2 hs2 hw2 => ⟨hw2.trans (wipe_wipe σ vs), ι2, δ2, M1, b, M2, hs2, hm2, et, fun ι3 H3 l3 hm3 => ?_⟩⟩
            cases b with
            | false =>
              simp only [Bool.false_eq_true, if_false] at hl ⊢
              exact ⟨ι3, M2, l1.trans (l2.trans l3), hm3, hl⟩
            | true =>
              simp only [if_true] at hl ⊢
              cases ee : te δ2 M2 with
              | none => rw [ee] at hl; cases hl
              | some z =>
                obtain ⟨y', M3⟩ := z
                rw [ee] at hl
                simp only [Option.bind_some] at hl
                refine ⟨ι3, δ2, M2, y', M3, hs2.mono l3, hm3, ee, fun ι4 H4 v l4 hm4 r4 => ?_⟩
                split at hl
                · rename_i kk
                  cases r4
                  refine ⟨kk, rfl, ?_⟩
                  split at hl
                  · rename_i hk
                    rw [if_pos hk]
                    exact ⟨ι4, M3, l1.trans ((l2.trans l3).trans l4), hm4, hl⟩
                  · rename_i hk
                    rw [if_neg hk]
                    cases hl
                    exact k ι4 H4 _ (l0.trans (l1.trans ((l2.trans l3).trans l4))) hm4 (.bl _)
                · cases hl
      · have ei : i = items.length := by omega
        subst ei
        rw [List.drop_length, genM_nil gdd] at hl
        cases hl
        exact .inl ⟨hj.2 (Nat.le_refl _), k ι1 H1 _ (l0.trans l1) hm1 (.bl _)⟩
/-- the code that runs, its table told by the written part -/
structure CodeT (K : PySem.W.Frag) (base : Heap) (code : Value) : Prop where
  ex : ∃ T, T ∈ tabsOf K ∧ CodeAt base code T
theorem me_any {k : Nat} {elt iter : Expr} {ifs : List Expr} {scope : Scope} {own : List (Str × Nat)} {p gpos : Pos} {mi : mI} {g : mG} {tt : mT} {te : mE}
    (hc : X.calm = true) (hN : X.N.Nodup) (hr : Room (k + 1) X.A) (hC : CodeT X.K X.base X.env.code) (hB : BltAt X.base X.mg) (hgl : Gl X "any") (hm : X.mg "any" = none) (hi : PI X tg iter (tMI X.K mi)) (ok : GenOk X.N X.env.scope scope own)
    (hg : ∀ (A : Around) (s : Shared) (H : Hp) (C : Addr) (cl : List (Str × Addr)) (code : Value) (fp : List Addr), Room k A → PG (X.gen A s H (genEnv scope cl C code builtinsNs X.env) fp) tg (tMG X.K g (own.map (·.2))))
    (ht : ∀ (A : Around) (s : Shared) (H : Hp) (C : Addr) (cl : List (Str × Addr)) (code : Value) (fp : List Addr), Room k A → PTs (X.gen A s H (genEnv scope cl C code builtinsNs X.env) fp) ifs (tMT X.K tt))
    (he : ∀ (A : Around) (s : Shared) (H : Hp) (C : Addr) (cl : List (Str × Addr)) (code : Value) (fp : List Addr), Room k A → PE (X.gen A s H (genEnv scope cl C code builtinsNs X.env) fp) elt (tM X.K te))
    (hs : ∀ x, genFold iter X.env x = pure x := by intro _; rfl) :
    PE X (.Call (.Name "any" p) [.GeneratorExp elt [⟨tg, iter, ifs, 0⟩] scope gpos] [] pos) (tM X.K (mGen false mi g tt te (own.map (·.2)))) := by
  obtain ⟨T, hT, hC⟩ := hC.ex
  exact PE.imp (pe_any hc hN hr hC hB hgl hm hi ok hg ht he hs) fun σ H Q h => gen_imp hT h

/-! ### the names of a generator, checked -/
theorem genOk_by {N : List Str} {sc scope : Scope} {own : List (Str × Nat)} (h : blkC N sc scope own = true) (h2 : (scope.names.all fun y => !(y.2 == NameKind.cell)) = true) (h3 : scope.names.lookup (".0" : Str) = some NameKind.local) (h4 : scope.isCoroutine = false) : GenOk N sc scope own := by
  refine ⟨blkOk_by h, fun y hy e => ?_, h3, h4⟩
  have := List.all_eq_true.mp h2 y hy
  rw [e] at this
  exact absurd this (by decide)

/-! ### the written part without the tables, which it tells of in its last entry -/
/-- T: the tables' addresses and what stands in them -/
def keepT (T : List (Addr × Array Value)) (p : Addr × Obj) : Bool := !(T.any fun t => t.1 == p.1)
def cutK (K : PySem.W.Frag) (T : List (Addr × Array Value)) : PySem.W.Frag :=
  (K.filter (keepT T)) ++ [(mainGlobals, ⟨.none, none, .fields (T.map fun t => Value.ref t.1).toArray, #[]⟩)]
theorem tabsOf_cut {K : PySem.W.Frag} {T : List (Addr × Array Value)} : tabsOf (cutK K T) = T.map (·.1) := by
  unfold tabsOf cutK
  rw [List.getLast?_append]
  simp only [List.getLast?_singleton, Option.some_or]
  induction T with
  | nil => rfl
  | cons t r ih => simpa using ih
theorem lookup_filter {T : List (Addr × Array Value)} {a : Addr} (h : (T.any fun t => t.1 == a) = false) : ∀ {K : PySem.W.Frag}, (K.filter (keepT T)).lookup a = K.lookup a
  | [] => rfl
  | (b, o) :: r => by
    have ih := lookup_filter h (K := r)
    by_cases hb : a = b
    · subst hb
      rw [List.filter_cons_of_pos (by unfold keepT; rw [h]; rfl)]
      simp [List.lookup_cons]
    · by_cases hc : keepT T (b, o) = true
      · rw [List.filter_cons_of_pos hc]
        have e : (a == b) = false := by simpa using hb
        simp only [List.lookup_cons, e]; exact ih
      · rw [List.filter_cons_of_neg hc]
        have e : (a == b) = false := by simpa using hb
        simp only [List.lookup_cons, e]; exact ih
theorem lookup_none {T : List (Addr × Array Value)} {a : Addr} (h : (T.any fun t => t.1 == a) = true) : ∀ {K : PySem.W.Frag}, (K.filter (keepT T)).lookup a = none
  | [] => rfl
  | (b, o) :: r => by
    have ih := lookup_none h (K := r)
    by_cases hc : keepT T (b, o) = true
    · rw [List.filter_cons_of_pos hc]
      have hb : a ≠ b := fun z => by subst z; unfold keepT at hc; rw [h] at hc; cases hc
      have e : (a == b) = false := by simpa using hb
      simp only [List.lookup_cons, e]; exact ih
    · rw [List.filter_cons_of_neg hc]; exact ih
/-- where a table lies the written part tells nothing else -/
def TabsIn (K : PySem.W.Frag) (T : List (Addr × Array Value)) : Prop := ∀ t ∈ T, ∀ o, K.lookup t.1 = some o → o = { cls := .none, data := .fields t.2 }
theorem cut_get {K : PySem.W.Frag} {T : List (Addr × Array Value)} (hT : TabsIn K T) {a : Addr} {o : Obj} (e : K.lookup a = some o) (n : ∀ ps, o ≠ { cls := .none, data := .fields ps }) : (cutK K T).lookup a = some o := by
  have h : (T.any fun t => t.1 == a) = false := by
    cases z : (T.any fun t => t.1 == a) with
    | false => rfl
    | true =>
      obtain ⟨t, ht, q⟩ := List.any_eq_true.mp z
      have q : t.1 = a := by simpa using q
      exact absurd (hT t ht o (by rw [q]; exact e)) (n _)
  unfold cutK
  rw [List.lookup_append, lookup_filter h, e]; rfl
end Mir

set_option Elab.async false
set_option linter.all false
set_option maxRecDepth 100000
set_option maxHeartbeats 4000000
namespace Mir
open PySem PySem.Spec L2
section
variable {K : PySem.W.Frag} {T : List (Addr × Array Value)}
theorem cut_ns (hT : TabsIn K T) {ns : Addr} {x : Str} {r : Option Value} (h : PySem.W.nsIn K ns x = some r) : PySem.W.nsIn (cutK K T) ns x = some r := by
  unfold PySem.W.nsIn at h
  split at h
  · rename_i oc od es n sl q
    have q' := cut_get hT q (by intro ps z; cases z)
    unfold PySem.W.nsIn
    rw [q']
    exact h
  · cases h
theorem cut_fn (hT : TabsIn K T) {a : Addr} {oc : Value} {od : Option Addr} {fd : FuncData} {sl : Array (Option Value)} (h : K.lookup a = some ⟨oc, od, .func fd, sl⟩) : (cutK K T).lookup a = some ⟨oc, od, .func fd, sl⟩ := cut_get hT h (by intro ps z; cases z)
theorem cut_keep (hT : TabsIn K T) {a : Addr} {oc : Value} {od : Option Addr} {fd : FuncData} {sl : Array (Option Value)} (h : K.lookup a = some ⟨oc, od, .func fd, sl⟩) : PySem.W.keepIn (cutK K T) (.ref a) = true := by
  unfold PySem.W.keepIn
  simp only [cut_fn hT h]
theorem cut_code (hT : TabsIn K T) (hE : ∀ t ∈ T, t.2 = #[]) {cd : Value} {q : Str} (h : PySem.W.codeIn K cd q = true) : PySem.W.codeIn (cutK K T) cd q = true := by
  unfold PySem.W.codeIn at h
  split at h
  · rename_i c
    split at h
    · rename_i oc od vs sl e
      split at h
      · rename_i v0 n t r hv
        have hz : (T.any fun t => t.1 == c) = false := by
          cases z : (T.any fun t => t.1 == c) with
          | false => rfl
          | true =>
            obtain ⟨t', ht, e'⟩ := List.any_eq_true.mp z
            have e' : t'.1 = c := by simpa using e'
            have h1 := hT t' ht _ (by rw [e']; exact e)
            rw [hE t' ht] at h1
            cases h1
            cases hv
        unfold PySem.W.codeIn
        have : (cutK K T).lookup c = some ⟨oc, od, .fields vs, sl⟩ := by
          unfold cutK
          rw [List.lookup_append, lookup_filter hz, e]; rfl
        simp only [this, hv]
        exact h
      · cases h
    · cases h
  · cases h
end
theorem lookN_mem {α : Type} : ∀ {l : List (Addr × α)} {a : Addr} {b : α}, l.lookup a = some b → (a, b) ∈ l
  | (k, v) :: r, a, b, h => by
    by_cases e : a = k
    · subst e
      simp only [List.lookup_cons, beq_self_eq_true] at h
      cases h; exact List.mem_cons_self
    · have e' : (a == k) = false := by simpa using e
      simp only [List.lookup_cons, e'] at h
      exact List.mem_cons_of_mem _ (lookN_mem h)
theorem lookN_none {α : Type} : ∀ {l : List (Addr × α)} {a : Addr}, l.lookup a = none → ∀ t ∈ l, t.1 ≠ a
  | (k, v) :: r, a, h, t, ht => by
    by_cases e : a = k
    · subst e
      simp only [List.lookup_cons, beq_self_eq_true] at h
      cases h
    · have e' : (a == k) = false := by simpa using e
      simp only [List.lookup_cons, e'] at h
      rcases List.mem_cons.mp ht with rfl | ht
      · exact fun z => e z.symm
      · exact lookN_none h t ht


/-- the code of each of these defs, with its table -/
def Codes (gn : List Str) (K : PySem.W.Frag) (mg : Str → Option Value) (base : Heap) : Prop := ∀ x ∈ gn, ∀ (a : Addr) (oc : Value) (od : Option Addr) (fd : FuncData) (sl : Array (Option Value)), mg x = some (.ref a) → K.lookup a = some ⟨oc, od, .func fd, sl⟩ → CodeT K base fd.code
/-! ### the law's call, from a heap in which the script and the tables are tracked -/
theorem law_callT {P : Program} {w : World} {K : PySem.W.Frag} {T : List (Addr × Array Value)} {mg mb : Str → Option Value} {k : Nat} {fa a : Addr} {fd : FuncData} {x : Str} {f : List D → Mem → Option (D × Mem)} {s₁ : Shared} {vs : List Value} {ns : List Int} (hT : TabsIn K T) (gn : List Str)
    (hTab : ∀ t ∈ T, t.2 = #[] ∧ ∃ c, s₁.heap.IsCode c t.1 #[] ∧ s₁.heap.TableAt c t.1 #[]) (hGn : ∀ x ∈ gn, ∃ a o fd c P, mg x = some (.ref a) ∧ s₁.heap.get? a = some o ∧ o.data = .func fd ∧ fd.code = .ref c ∧ s₁.heap.IsCode c P #[] ∧ s₁.heap.TableAt c P #[] ∧ (P, #[]) ∈ T)
    (hbm : ∃ bm ob, mg "__builtins__" = some (.ref bm) ∧ bm ≠ builtinsNs ∧ s₁.heap.get? bm = some ob ∧ ob.cls = .type "module" ∧ ob.dict = some builtinsNs ∧ ob.data = .plain)
    (KX : K.In s₁.heap) (hns : s₁.heap.Ns mainGlobals mg) (hb : s₁.heap.Ns builtinsNs mb) (hbb : ∀ x : Str, x ≠ "__name__" → mb x = bootBuiltins x) (hlim : s₁.heap.NoLimit) (hg : s₁.gens = #[]) {x0 : Str} {r0 : Option Value} (hog : PySem.W.nsIn K mainGlobals x0 = some r0)
    (ha : s₁.heap.get? a = some { cls := .type "list", data := .seq vs.toArray }) (hi : PyProof.Rows.IntsAre vs ns) (hl : ns.length ≤ 63) (hr : Room k callerA)
    (F : ∀ base : Heap, (cutK K T).In base → base.Ns mainGlobals mg → BltAt base mg → Codes gn (cutK K T) mg base → FnOk P w (cutK K T) mg base CX0 k fa fd [x] (spM (cutK K T) 1 f)) (hbind : ∀ (s : Shared) (u : Value), BindsTo s fd ⟨[u], []⟩ [(x, u)])
    (hf : ∀ ns : List Int, ns.length ≤ 63 → ∃ M', f [.rol (ns.map D.int)] [] = some (.bl true, M')) :
    codeAny (model P w) callerA (.call (.ref fa) ⟨[.ref a], []⟩) (fun r s' => r = .ok (.ret (.bool true)) ∧ OldK s₁.heap s'.heap ∧ s'.os = s₁.os ∧ PyProof.Rows.AllBare s'.gens) s₁ := by
  have rv := vals_ints hi
  have lenV := hi.length
  have hsz : ns.length ≤ sizeLine := Nat.le_trans hl (by decide)
  have tabAt : ∀ t ∈ T, s₁.heap.get? t.1 = some { cls := .none, data := .fields t.2 } := fun t ht => by
    obtain ⟨e, c, _, h2⟩ := hTab t ht
    rw [e]; exact h2.2
  have aT : ∀ t ∈ T, t.1 ≠ a := fun t ht z => by
    have := tabAt t ht
    rw [z, ha] at this
    cases this
  have inBack : ∀ {b : Addr} {o : Obj}, (cutK K T).lookup b = some o → K.lookup b = some o ∧ T.lookup b = none := fun {b o} e => by
    have hne : ∀ {n : Addr}, T.lookup n ≠ none → n ≠ mainGlobals := fun {n} z q => by
      subst q
      cases z' : T.lookup mainGlobals with
      | none => exact z z'
      | some ps =>
        unfold PySem.W.nsIn at hog
        split at hog
        · rename_i q'
          have h1 := hT _ (lookN_mem z') _ q'
          cases h1
        · cases hog
    have any_iff : ∀ n, (T.any fun t => t.1 == n) = true ↔ T.lookup n ≠ none := fun n => by
      constructor
      · intro z q
        obtain ⟨t, ht, e⟩ := List.any_eq_true.mp z
        exact lookN_none q t ht (by simpa using e)
      · intro z
        cases z' : T.lookup n with
        | none => exact absurd z' z
        | some ps => exact List.any_eq_true.mpr ⟨_, lookN_mem z', by simp⟩
    cases q : T.lookup b with
    | some ps =>
      have hb1 := hne (n := b) (by rw [q]; simp)
      have hb2 : (b == mainGlobals) = false := by simpa using hb1
      unfold cutK at e
      rw [List.lookup_append, lookup_none ((any_iff b).mpr (by rw [q]; simp))] at e
      simp [List.lookup_cons, hb2] at e
    | none =>
      have z : (T.any fun t => t.1 == b) = false := by
        cases z : (T.any fun t => t.1 == b) with
        | false => rfl
        | true => exact absurd q ((any_iff b).mp z)
      unfold cutK at e
      rw [List.lookup_append, lookup_filter z] at e
      cases q2 : K.lookup b with
      | some o' => rw [q2] at e; simp at e; subst e; exact ⟨rfl, rfl⟩
      | none =>
        exfalso
        rw [q2] at e
        by_cases hb1 : b = mainGlobals
        · subst hb1
          unfold PySem.W.nsIn at hog
          rw [q2] at hog
          cases hog
        · have hb2 : (b == mainGlobals) = false := by simpa using hb1
          simp [List.lookup_cons, hb2] at e
  have core : ∀ S : Option HO, (∀ xs, S ≠ some (.lst xs)) → (S = none ∨ S = some (.frz { cls := .type "list", data := .seq vs.toArray } (.lst (ns.map V.int)))) → (S ≠ none → K.lookup a = none) →
      (∀ H : Hp, H a = S → SqL (cutK K T) H a (ns.map V.int)) →
      codeAny (model P w) callerA (.call (.ref fa) ⟨[.ref a], []⟩) (fun r s' => r = .ok (.ret (.bool true)) ∧ OldK s₁.heap s'.heap ∧ s'.os = s₁.os ∧ PyProof.Rows.AllBare s'.gens) s₁ := by
    intro S hS1 hS2 hS3 hS4
    generalize hH : (fun b => match T.lookup b with
      | some ps => some (TabO b ps)
      | none => if b = a then S else none : Hp) = H
    have Ht : ∀ {b : Addr} {ps : Array Value}, T.lookup b = some ps → H b = some (TabO b ps) := fun {b ps} e => by rw [← hH]; simp only [e]
    have Ha : T.lookup a = none := by
      cases q : T.lookup a with
      | none => rfl
      | some ps => exact absurd rfl (aT _ (lookN_mem q))
    have HS : H a = S := by rw [← hH]; simp only [Ha, if_true]
    have Hn : ∀ {b : Addr}, T.lookup b = none → b ≠ a → H b = none := fun {b} e n => by rw [← hH]; simp only [e, if_neg n]
    have hok : HOk P w H s₁.heap := fun b u z => by
      cases q : T.lookup b with
      | some ps =>
        rw [Ht q] at z
        cases z
        have h1 := tabAt _ (lookN_mem q)
        have h2 : TriplesOk ps.toList := by rw [show ps = #[] from (hTab _ (lookN_mem q)).1]; trivial
        exact ⟨⟨#[], by simpa using h1, by simpa using h2⟩, ⟨_, h1⟩, fun h1 h2 ⟨more, e1, e2⟩ k => ⟨more, k _ e1, e2⟩⟩
      | none =>
        by_cases hb1 : b = a
        · subst hb1
          rw [HS] at z
          rcases hS2 with e | e
          · rw [e] at z; cases z
          · rw [e] at z; cases z
            exact ⟨ha, by rw [List.length_map]; exact hsz, vs, _, rv, ha⟩
        · rw [Hn q hb1] at z; cases z
    have dictN : ∀ {b : Addr} {o : Obj} {es : Array DictEntry} {ep : Nat}, s₁.heap.get? b = some o → o.data = .dict es ep → H b = none := fun {b o es ep} e d => by
      cases q : T.lookup b with
      | some ps =>
        have h1 := tabAt _ (lookN_mem q)
        rw [e] at h1
        cases h1
        cases d
      | none =>
        refine Hn q fun z => ?_
        subst z
        rw [ha] at e
        cases e
        cases d
    have nsK : ∀ {b : Addr} {m : Str → Option Value}, s₁.heap.Ns b m → (hidT s₁.heap H).Ns b m := fun {b m} ⟨o, es, ep, e, d, r⟩ => ⟨o, es, ep, hidT_get e (dictN e d), d, r⟩
    have hKb : (cutK K T).In (hidT s₁.heap H) := fun b o e => by
      obtain ⟨e1, e2⟩ := inBack e
      refine hidT_get (KX b o e1) ?_
      by_cases hb1 : b = a
      · subst hb1
        rw [HS]
        rcases hS2 with z | z
        · exact z
        · rw [hS3 (by rw [z]; simp)] at e1; cases e1
      · exact Hn e2 hb1
    have hM : Mod (cutK K T) mg (hidT s₁.heap H) := ⟨hKb, nsK hns, ⟨mb, nsK hb, hbb⟩, let ⟨mc, h1, h2⟩ := hlim; ⟨mc, nsK h1, h2⟩⟩
    have e0 : Env0 P w (cutK K T) mg (hidT s₁.heap H) callerA [] s₁ H := ⟨rfl, hM, fun b o e => of_hidT e, Nat.le_of_eq (hidT_size _ _), trivial, fun b hb => absurd (show b ∈ ([] : List Addr) from hb) (by simp), hok, .of_eq hg⟩
    have objN : ∀ {b : Addr} {o : Obj} {n : String}, s₁.heap.get? b = some o → o.cls = .type n → n ≠ "list" → H b = none := fun {b o n} e d hn => by
      cases q : T.lookup b with
      | some ps =>
        have h1 := tabAt _ (lookN_mem q)
        rw [e] at h1
        cases h1
        cases d
      | none =>
        refine Hn q fun z => ?_
        subst z
        rw [ha] at e
        cases e
        cases d
        exact hn rfl
    have hB : BltAt (hidT s₁.heap H) mg := by
      obtain ⟨bm, ob, h1, h2, h3, h4, h5, h6⟩ := hbm
      exact ⟨bm, ob, h1, h2, hidT_get h3 (objN h3 h4 (by decide)), h4, h5, h6⟩
    have hCs : Codes gn (cutK K T) mg (hidT s₁.heap H) := fun x hx a' oc od fd' sl h1 h2 => by
      obtain ⟨a2, o, fd2, c, P', e1, e2, e3, e4, hc, ht, hm⟩ := hGn x hx
      rw [e1] at h1
      cases h1
      have h3 := KX _ _ (inBack h2).1
      rw [e2] at h3
      cases h3
      cases e3
      rw [e4]
      obtain ⟨o', vs', file, tf, flags, tg, inF, text, tt, op, f1, f2, f3, f4, f5, f6, f7, _⟩ := hc
      obtain ⟨⟨o2, vs2, g1, g2, _⟩, _⟩ := ht
      rw [f1] at g1
      cases g1
      exact ⟨P', by rw [tabsOf_cut]; exact List.mem_map.mpr ⟨_, hm, rfl⟩, ⟨c, o', vs', file, tf, flags, tg, inF, text, tt, rfl, hidT_get f1 (objN f1 g2 (by decide)), f2, f3, f4, f5, f6, f7⟩⟩
    have sp := law_sp (K := cutK K T) hf H a ns hl (by rw [HS]; exact hS1) (fun t ht => by
      rw [tabsOf_cut] at ht
      obtain ⟨p, hp, rfl⟩ := List.mem_map.mp ht
      cases q : T.lookup p.1 with
      | none => exact absurd rfl (lookN_none q p hp)
      | some ps => exact ⟨ps, Ht q⟩) (hS4 H HS) (fun H' => ∀ b φ, H b = some (HO.ext φ) → H' b = some (HO.ext φ)) fun ι' H' l => l.tb
    refine codeAny_mono ((F _ hKb (nsK hns) hB hCs).run callerA [] s₁ H ⟨[.ref a], []⟩ [.ref a] [.ref a] _ _ hr e0 (hbind s₁ (.ref a)) (.cons rfl .nil) sp) fun r s' h => ?_
    cases r with
    | error e => exact False.elim h
    | ok fl =>
      cases fl with
      | next => exact False.elim h
      | brk => exact False.elim h
      | cont => exact False.elim h
      | ret u =>
        obtain ⟨v, H', os, bare, un, hok', r', rfl, hx⟩ := h
        obtain rfl : u = Value.bool true := r'
        have kept : ∀ b o, s₁.heap.get? b = some o → T.lookup b = none → s'.heap.get? b = some o := fun b o e q => by
          by_cases hb1 : b = a
          · subst hb1
            rcases hS2 with z | z
            · exact un.keep b o e (HS.trans z) (by simp [frs]) (by simp)
            · have z2 := un.frzs b _ _ (HS.trans z)
              obtain ⟨e2, _⟩ := hok' b _ z2
              rw [ha] at e; cases e
              exact e2
          · exact un.keep b o e (Hn q hb1) (by simp [frs]) (by simp)
        have grown : ∀ b ps, T.lookup b = some ps → ∃ more, s'.heap.get? b = some { cls := .none, data := .fields (ps ++ more) } := fun b ps q => by
          obtain ⟨⟨more, e, _⟩, _⟩ := hok' b _ (hx b _ (Ht q))
          exact ⟨more, e⟩
        refine ⟨rfl, ⟨fun b o e => ?_, fun b o e => ?_⟩, os, bare⟩
        · cases q : T.lookup b with
          | none => exact .inl (kept b o e q)
          | some ps =>
            obtain ⟨more, e2⟩ := grown b ps q
            have h1 := tabAt _ (lookN_mem q)
            rw [e] at h1; cases h1
            obtain ⟨_, c, _, hc2⟩ := hTab _ (lookN_mem q)
            exact .inr (.inl ⟨hc2.isCodeTable, rfl, ps, more, rfl, e2⟩)
        · cases q : T.lookup b with
          | none => exact ⟨o, kept b o e q⟩
          | some ps => obtain ⟨more, e2⟩ := grown b ps q; exact ⟨_, e2⟩
  cases hk : K.lookup a with
  | some o =>
    have e := KX a o hk
    rw [ha] at e
    cases e
    have hk' := cut_get hT hk (by intro ps z; cases z)
    exact core none (fun _ z => by cases z) (.inl rfl) (fun z => absurd rfl z) fun H _ => .inr ⟨_, vs.toArray, _, hk', rfl, rfl, rfl, by rw [List.size_toArray, lenV]; exact hsz, by simpa using rv⟩
  | none =>
    exact core (some (.frz { cls := .type "list", data := .seq vs.toArray } (.lst (ns.map V.int)))) (fun _ z => by cases z) (.inr rfl) (fun _ => hk) fun H e => .inl (.inr ⟨_, e⟩)
theorem tabs_of {mg : Str → Option Value} {h : Heap} : ∀ (gn : List Str), (∀ x ∈ gn, ∃ a o fd c P, mg x = some (.ref a) ∧ h.get? a = some o ∧ o.data = .func fd ∧ fd.code = .ref c ∧ h.IsCode c P #[] ∧ h.TableAt c P #[]) →
    ∃ T : List (Addr × Array Value), (∀ t ∈ T, t.2 = #[] ∧ ∃ c, h.IsCode c t.1 #[] ∧ h.TableAt c t.1 #[]) ∧ ∀ x ∈ gn, ∃ a o fd c P, mg x = some (.ref a) ∧ h.get? a = some o ∧ o.data = .func fd ∧ fd.code = .ref c ∧ h.IsCode c P #[] ∧ h.TableAt c P #[] ∧ (P, #[]) ∈ T
  | [], _ => ⟨[], fun _ h => (by cases h), fun _ h => (by cases h)⟩
  | x :: r, hx => by
    obtain ⟨T, h1, h2⟩ := tabs_of r fun y hy => hx y (List.mem_cons_of_mem _ hy)
    obtain ⟨a, o, fd, c, P, e1, e2, e3, e4, e5, e6⟩ := hx x List.mem_cons_self
    refine ⟨(P, #[]) :: T, fun t ht => ?_, fun y hy => ?_⟩
    · rcases List.mem_cons.mp ht with rfl | ht
      · exact ⟨rfl, c, e5, e6⟩
      · exact h1 t ht
    · rcases List.mem_cons.mp hy with rfl | hy
      · exact ⟨a, o, fd, c, P, e1, e2, e3, e4, e5, e6, List.mem_cons_self⟩
      · obtain ⟨a, o, fd, c, P, e1, e2, e3, e4, e5, e6, e7⟩ := h2 y hy
        exact ⟨a, o, fd, c, P, e1, e2, e3, e4, e5, e6, List.mem_cons_of_mem _ e7⟩
theorem law_walkT {l : PySem.W.OpenLaw} {q : Program} {loose : List Str} {XP : (Str → Option Value) → Heap → Prop} {YP : World → Heap → Prop} {d : DefRec} {K : Params → PySem.W.Frag} {k : Nat} {x : Str} {f : List D → Mem → Option (D × Mem)} (gn : List Str)
    (hn : l.most = some 63) (hdf : d.params.defaults = []) (hr : Room k callerA) (hq : (gn.all fun x => (PyProof.Rows.recsOf q).any fun r => r.name == x) = true) (hY : ∀ (w : World) (h : Heap), YP w h → (K w.params).In h)
    (F : ∀ (w : World) (mg : Str → Option Value) (fa : Addr) (h : Heap) (T : List (Addr × Array Value)), (K w.params).In h → h.Ns mainGlobals mg → mg d.name = some (.ref fa) → TabsIn (K w.params) T → (∀ t ∈ T, t.2 = #[]) →
      ∃ fd : FuncData, (∃ x0 r0, PySem.W.nsIn (K w.params) mainGlobals x0 = some r0) ∧ (∀ (s : Shared) (u : Value), BindsTo s fd ⟨[u], []⟩ [(x, u)]) ∧
        ∀ base : Heap, (cutK (K w.params) T).In base → base.Ns mainGlobals mg → BltAt base mg → Codes gn (cutK (K w.params) T) mg base → FnOk l.prog w (cutK (K w.params) T) mg base CX0 k fa fd [x] (spM (cutK (K w.params) T) 1 f))
    (hf : ∀ ns : List Int, ns.length ≤ 63 → ∃ M', f [.rol (ns.map D.int)] [] = some (.bl true, M')) :
    PySem.W.WalkO q loose XP YP l.row.toRowW d [] (fun f vs => PySem.call f vs) := by
  refine Att.attach_call hn hdf fun w s₀ s₁ mg mb fa o pm cd doc a vs ns G Y ho hd hcd hmg hobj hints hlen hg => ?_
  have KX := hY w _ Y
  obtain ⟨T, hTab, hGn⟩ := tabs_of (mg := mg) (h := s₁.heap) gn fun x hx => by
    have h1 := List.all_eq_true.mp hq x hx
    obtain ⟨r, hr, e⟩ := List.any_eq_true.mp h1
    have e : r.name = x := by simpa using e
    subst e
    exact G.T.tab r hr
  have hT : TabsIn (K w.params) T := fun t ht o e => by
    obtain ⟨e1, c, _, e2⟩ := hTab t ht
    have h1 := KX _ _ e
    rw [e2.2] at h1
    cases h1
    rw [e1]
  obtain ⟨fd, ⟨x0, r0, hx0⟩, hb, hF⟩ := F w mg fa _ T KX G.T.g hmg hT fun t ht => (hTab t ht).1
  exact law_callT hT gn hTab hGn G.T.bmain KX G.T.g G.T.b G.T.builtins G.T.nolimit hg hx0 hobj hints hlen hr hF hb hf
end Mir

set_option Elab.async false
set_option linter.all false
set_option maxRecDepth 100000
set_option maxHeartbeats 4000000
namespace Mir
open PySem PySem.Spec L2
section
variable {P : Program} {w : World} {K : PySem.W.Frag} {mg : Str → Option Value} {base : Heap}
/-- a def with generator expressions: its body may use that the code's table is told -/
theorem fn_okG {x qual : Str} {sf : Stmt} {f : Addr} {fd : FuncData} {N ps : List Str} {k : Nat} {ms : mS} (F : Fun K x qual sf f fd) (hC : CodeT K base fd.code) (S : FnScope N ps (defScope sf))
    (hb : ∀ (cdv : Value) (A : Around) (outer : List Env) (s : Shared) (H : Hp) (E : XK), Room k (A.deeper (PyProof.Rows.envOfC qual (defScope sf) s.heap.objs.size f cdv)) → CodeT K base cdv →
      PSs (cxOf CX0 P w K mg base N qual (defScope sf) f cdv A outer s H E).nox (defBody sf) (tMS K ms)) : FnOk P w K mg base CX0 (k + 1) f fd ps (spM K ps.length (fnM N.length ms)) := by
  obtain ⟨oc, od, kV, doc, pm, an, cdv, ct, osl, rfl, lk, hcd⟩ := F.ex
  refine fn_of lk hcd S (fun vs H Q E ⟨ι, ds, M, d, M', hn, r, _⟩ => by rw [← r.length]; exact hn) fun A outer s H vs Q E hr h => ?_
  have hbb := (hb cdv A outer s H E hr hC).nox
  refine ⟨_, hbb, ?_⟩
  obtain ⟨ι, ds, M, d, M', hn, r, hm, he, k⟩ := h
  unfold fnM at he
  split at he
  · rename_i d' M1 e1; cases he
    exact ⟨ι, _, M, _, _, start_rel r, hm, e1, fun ι1 H1 l1 m1 v r1 => k ι1 H1 v l1 m1 r1⟩
  · rename_i δ' M1 e1; cases he
    exact ⟨ι, _, M, _, _, start_rel r, hm, e1, fun ι1 H1 l1 m1 σ' _ => k ι1 H1 .non l1 m1 .non⟩
  · cases he
end

theorem cut_back {K : PySem.W.Frag} {T : List (Addr × Array Value)} (hT : TabsIn K T) {x0 : Str} {r0 : Option Value} (hog : PySem.W.nsIn K mainGlobals x0 = some r0) {b : Addr} {o : Obj} (e : (cutK K T).lookup b = some o) : K.lookup b = some o := by
  have any_iff : ∀ n, (T.any fun t => t.1 == n) = true → ∃ ps, T.lookup n = some ps := fun n z => by
    obtain ⟨t, ht, e⟩ := List.any_eq_true.mp z
    cases q : T.lookup n with
    | none => exact absurd (by simpa using e) (lookN_none q t ht)
    | some ps => exact ⟨ps, rfl⟩
  cases z : (T.any fun t => t.1 == b) with
  | true =>
    obtain ⟨ps, q⟩ := any_iff b z
    have hb1 : b ≠ mainGlobals := fun q' => by
      subst q'
      unfold PySem.W.nsIn at hog
      split at hog
      · rename_i q'
        have h1 := hT _ (lookN_mem q) _ q'
        cases h1
      · cases hog
    have hb2 : (b == mainGlobals) = false := by simpa using hb1
    unfold cutK at e
    rw [List.lookup_append, lookup_none z] at e
    simp [List.lookup_cons, hb2] at e
  | false =>
    unfold cutK at e
    rw [List.lookup_append, lookup_filter z] at e
    cases q2 : K.lookup b with
    | some o' => rw [q2] at e; simp at e; subst e; rfl
    | none =>
      exfalso
      rw [q2] at e
      by_cases hb1 : b = mainGlobals
      · subst hb1
        unfold PySem.W.nsIn at hog
        rw [q2] at hog
        cases hog
      · have hb2 : (b == mainGlobals) = false := by simpa using hb1
        simp [List.lookup_cons, hb2] at e
theorem cut_in {K : PySem.W.Frag} {T : List (Addr × Array Value)} {h : Heap} (hT : TabsIn K T) {x0 : Str} {r0 : Option Value} (hog : PySem.W.nsIn K mainGlobals x0 = some r0) (X : K.In h) : (cutK K T).In h := fun b o e => X b o (cut_back hT hog e)
end Mir

set_option Elab.async false
set_option linter.all false
set_option maxRecDepth 100000
set_option maxHeartbeats 4000000
namespace HT
open PySem PySem.Spec PyProof.Rows
section
variable {prog : Program} {w : World} {A : Around} {E : Value → Shared → Prop} {s : Shared}
theorem rev_places (n : Nat) : Builtin.Slice.slicePlaces ((n : Int) - 1) (-1) (-1) = n := by
  unfold Builtin.Slice.slicePlaces
  rw [if_neg (by decide)]
  split
  · have : ((n : Int) - 1 - -1 - 1) / (- -1) + 1 = n := by
      rw [show (- -1 : Int) = 1 from rfl, Int.ediv_one]; omega
    rw [this]; rfl
  · have : n = 0 := by omega
    subst this; rfl
theorem rev_pick (xs : List Value) : ((List.range xs.length).filterMap fun (m : Nat) => xs.toArray[(((xs.length : Int) - 1) + (m : Int) * (-1)).toNat]?) = xs.reverse := by
  apply List.ext_getElem?
  intro i
  have key : ∀ (l : List Nat), (∀ m ∈ l, m < xs.length) → l.filterMap (fun (m : Nat) => xs.toArray[(((xs.length : Int) - 1) + (m : Int) * (-1)).toNat]?) = l.map fun m => xs.getD (xs.length - 1 - m) .none := by
    intro l
    induction l with
    | nil => intro _; rfl
    | cons m r ih =>
      intro h
      have hm := h m List.mem_cons_self
      have e : (((xs.length : Int) - 1) + (m : Int) * (-1)).toNat = xs.length - 1 - m := by omega
      have hlt : xs.length - 1 - m < xs.length := by omega
      have e2 : xs.toArray[(((xs.length : Int) - 1) + (m : Int) * (-1)).toNat]? = some (xs.getD (xs.length - 1 - m) .none) := by
        rw [e]
        simp [hlt]
      rw [List.filterMap_cons, List.map_cons, ← ih fun k hk => h k (List.mem_cons_of_mem _ hk)]
      simp only [e2]
  rw [key _ (fun m hm => List.mem_range.mp hm)]
  rw [List.getElem?_map]
  by_cases hi : i < xs.length
  · rw [List.getElem?_reverse hi]
    have hlt : xs.length - 1 - i < xs.length := by omega
    simp [hi, hlt]
  · rw [List.getElem?_eq_none (by simpa using hi), List.getElem?_eq_none (by simpa using hi)]; rfl
theorem revApplied {sl : Addr} {n : Nat} {t : Tok} {Q : Int × Int × Nat → Shared → Prop} (hs : s.heap.IsSliceOf sl .none .none (.int (-1) t)) (h : Q ((n : Int) - 1, -1, n) s) : wpAny (model prog w) A (Builtin.Slice.sliceApplied (.ref sl) (pure (n : Int))) Q E s := by
  obtain ⟨os, hos, hcs, hds⟩ := id hs
  unfold Builtin.Slice.sliceApplied Builtin.Slice.sliceFields
  refine wpAny_bind (wpAny_bind (wpAny_field hos hds (x := .none) rfl (wpAny_bind (wpAny_field hos hds (x := .none) rfl (wpAny_bind (wpAny_field hos hds (x := .int (-1) t) rfl (wpAny_pure ?_)))))))
  refine wpAny_bind (slicePart_int ?_)
  show wpAny _ _ (if ((-1 : Int) == 0) = true then _ else _) _ _ s
  rw [if_neg (by decide)]
  refine wpAny_bind (slicePart_none (wpAny_bind (slicePart_none (wpAny_bind (wpAny_pure ?_)))))
  show wpAny _ _ (pure ((n : Int) - 1, (-1 : Int), Builtin.Slice.slicePlaces ((n : Int) - 1) (-1) (-1))) _ _ s
  rw [rev_places]
  exact wpAny_pure h
theorem getItem_tuple_rev {t sl : Addr} {items : List Value} {tk : Tok} {Q : Value → Shared → Prop} (ht : IsTup s.heap t items.toArray) (hs : s.heap.IsSliceOf sl .none .none (.int (-1) tk))
    (h : Q (.ref s.heap.objs.size) { s with heap := s.heap.push { cls := .type "tuple", data := .seq items.reverse.toArray } }) (hsz : items.length ≤ sizeLine) : wpAny (model prog w) A (getItem (.ref t) (.ref sl)) Q E s := by
  have htake : sizeOk (.seq items.reverse.toArray) := by
    show items.reverse.toArray.size ≤ sizeLine
    rw [List.size_toArray, List.length_reverse]; exact hsz
  obtain ⟨os, hos, hcs, hds⟩ := id hs
  have hTs : s.TypeIs (.ref sl) "slice" := ⟨os, hos, hcs⟩
  have hn : items.toArray.size = items.length := by rw [List.size_toArray]
  unfold getItem
  try with_reducible refine wpAny_holding ?_
  first | refine wpAny_bind (wpAny_pure ?_) | skip
  refine wpAny_bind (wpAny_sequenceKey ht.typeIs (by decide) ?_)
  refine wpAny_bind (wpAny_callSpecial?_slot (name := Str.ofString "__getitem__") ht.typeIs PyProof.Rows.slot_tuple_getitem (wpAny_call_entry PyProof.Rows.slot_tuple_getitem ht.typeIs entry_tuple_getitem ?_ (args_tuple_getitem _ _)))
  show wpAny _ _ (Builtin.Tuple.tupleItemsOf (.ref t) >>= _) _ _ s
  refine wpAny_bind (tupleItemsOf_ ht ?_)
  refine wpAny_bind (wpAny_typeOf hTs ?_); rw [if_pos (by decide)]
  refine wpAny_bind (revApplied (n := items.toArray.size) hs ?_)
  have hno : ¬ ((((items.toArray.size : Int) - 1) == 0 && (-1 : Int) == 1 && items.toArray.size == items.toArray.size) = true) := by
    intro q
    rw [Bool.and_eq_true, Bool.and_eq_true] at q
    exact absurd q.1.2 (by decide)
  show wpAny _ _ (if ((((items.toArray.size : Int) - 1)) == 0 && (-1 : Int) == 1 && items.toArray.size == items.toArray.size) = true then _ else _) _ _ s
  rw [if_neg hno, hn, rev_pick]
  first
    | exact wpAny_bind (m := Builtin.Tuple.tupleExact _) (wpAny_newObj_type (wpAny_pure ⟨_, rfl, wpAny_pure h⟩) htake)
    | exact wpAny_bind (wpAny_bind (m := Builtin.Tuple.tupleExact _) (wpAny_newObj_type (wpAny_pure ⟨_, rfl, wpAny_pure h⟩) htake))

end
end HT

namespace L2
open PySem PySem.Spec PyProof.Rows
section
variable {X : Cx} {e : Expr} {te : TE} {pos p2 p3 p4 : Pos}
theorem pick_rev (its : List Value) : slicePick its.toArray none none (some (-1)) = its.reverse.toArray := by
  unfold slicePick
  congr 1
  have hb : sliceBounds none none (some (-1)) its.toArray.size = ((its.length : Int) - 1, -1, -1) := by rw [List.size_toArray]; rfl
  rw [hb]
  have hr : sliceRange ((its.length : Int) - 1) (-1) (-1) = (List.range its.length).map fun (k : Nat) => (((its.length : Int) - 1) + (-1) * (k : Int)).toNat := by
    unfold sliceRange
    have hc : (if (-1 : Int) > 0 then (if ((its.length : Int) - 1) < -1 then (-1 - ((its.length : Int) - 1) + -1 - 1) / -1 else 0) else (if ((its.length : Int) - 1) > -1 then (((its.length : Int) - 1) - -1 - -1 - 1) / (- -1) else 0)) = (its.length : Int) := by
      rw [if_neg (by decide)]
      split
      · rw [show (- -1 : Int) = 1 from rfl, Int.ediv_one]; omega
      · omega
    rw [hc]; rfl
  show (sliceRange ((its.length : Int) - 1) (-1) (-1)).filterMap _ = _
  rw [hr, List.filterMap_map, ← HT.rev_pick its]
  congr 1
  funext m
  have e : ((its.length : Int) - 1 + -1 * (m : Int)) = (its.length : Int) - 1 + (m : Int) * -1 := by omega
  show its.toArray[((its.length : Int) - 1 + -1 * (m : Int)).toNat]? = _
  rw [e]
/-- xs[::-1] of a list or a tuple -/
def rRev (K : PySem.W.Frag) : V → Hp → VK → Prop := fun x H Q => (∃ a xs, x = .ref a ∧ SqL K H a xs ∧ ∀ p, H p = none → Q (.ref p) (upd H p (.lst xs.reverse))) ∨ ∃ a xs, x = .ref a ∧ SqT K H a xs ∧ ∀ p, H p = none → Q (.ref p) (upd H p (.tup xs.reverse))
theorem pe_rev (he : PE X e te) : PE X (.Subscript e (.Slice none none (some (.UnaryOp .USub (.Constant (.int 1) 0 p4) p3)) p2) pos) (fun σ H Q => te σ H fun x H1 => rRev X.K x H1 Q) := by
  intro pins s σ H Q I h
  refine Subscript_ (thn (he pins s σ H _ I h) fun v s1 ⟨x, H1, I1, r1, q1⟩ => ?_)
  refine wpAny_Slice ?_
  rw [evalPart_none]; refine wpAny_pure ?_
  refine wpAny_pure ?_
  refine thn (po_some (pe_un un_neg pe_int) pins s1 σ H1 (fun o H2 => o = some (-1) ∧ H2 = H1) I1 ⟨1, rfl, -1, rfl, rfl, rfl⟩) fun vs s2 ⟨o, H2, I2, ps, ho, hH⟩ => ?_
  subst ho hH
  cases ps with
  | int i t =>
  have I4 : Inv X pins σ H2 { s2 with heap := s2.heap.push { cls := .type "slice", data := .fields #[.none, .none, .int (-1) t] } } := I2.kept (t' := s2.toks) fun b ob q => Heap.get?_push_of_some _ q
  have hs : (s2.heap.push { cls := .type "slice", data := .fields #[.none, .none, .int (-1) t] }).IsSliceOf s2.heap.objs.size .none .none (.int (-1) t) := Heap.IsSliceOf.new ..
  show wpAny (model X.prog X.w) X.A (subscriptTail e (.Slice none none (some (.UnaryOp .USub (.Constant (.int 1) 0 p4) p3)) p2) v (.ref s2.heap.objs.size)) (EP X pins σ Q) X.xe { s2 with heap := s2.heap.push { cls := .type "slice", data := .fields #[.none, .none, .int (-1) t] } }
  rcases q1 with ⟨a, xs, rfl, hx, q⟩ | ⟨a, xs, rfl, hx, q⟩
  · cases r1
    obtain ⟨its, r, ht, hz⟩ := I4.list hx
    refine tail_any (ops := [.ref a, .ref s2.heap.objs.size]) ht.isList.typeIs slot_list_getitem.lookup ?_ (by with_unfolding_all rfl)
    refine wpAny_getItem_list_slice ht.isList hs .none .none (.int (-1) t) (by simp) ?_ (by rw [List.size_toArray, ← r.length]; exact hz)
    rw [pick_rev]
    refine ⟨.ref _, _, I4.laid (t' := s2.toks) (o := .lst xs.reverse) (fun b ob q => Heap.get?_push_of_some _ q) (Nat.le_refl _) ?_, rfl, q _ (I4.hok.fresh (Nat.le_refl _))⟩
    exact ⟨by rw [List.length_reverse]; exact hz, _, 0, vals_rev r, Heap.get?_push_size _ rfl⟩
  · cases r1
    obtain ⟨its, r, ht, hz⟩ := I4.tuple hx
    refine tail_any (ops := [.ref a, .ref s2.heap.objs.size]) ht.typeIs PyProof.Rows.slot_tuple_getitem.lookup ?_ (by with_unfolding_all rfl)
    refine HT.getItem_tuple_rev ht hs ?_ (by rw [← r.length]; exact hz)
    refine ⟨.ref _, _, I4.laid (t' := s2.toks) (o := .tup xs.reverse) (fun b ob q => Heap.get?_push_of_some _ q) (Nat.le_refl _) ?_, rfl, q _ (I4.hok.fresh (Nat.le_refl _))⟩
    exact ⟨by rw [List.length_reverse]; exact hz, _, vals_rev r, IsTup.new _ _, _, Heap.get?_push_size _ rfl, rfl⟩
end

section
variable {X : Cx} {pos p2 : Pos}
end
end L2
namespace L2
open PySem PySem.Spec PyProof.Rows
section
variable {X : Cx}
end
end L2
namespace Mir
open PySem PySem.Spec L2
variable {X : Cx} {e : Expr} {pos p2 p3 p4 : Pos} {me : mE} {K : PySem.W.Frag}
def slD2 (x : D) (lo hi : Option Int) (M : Mem) : Option (D × Mem) := match x with
  | .str z => if z.length ≤ sizeLine then some (.str (cutS z lo hi), M) else none
  | .tup xs => some (.tup (cutD xs lo hi), M)
  | x => match asList M x with
    | some xs => some (.obj M.length, M ++ [.lst (cutD xs lo hi)])
    | none => none
def mSl2 (me : mE) (ml mh : mO) : mE := fun δ M => (me δ M).bind fun r => (ml δ r.2).bind fun q => (mh δ q.2).bind fun z => slD2 r.1 q.1 z.1 z.2
/-- xs[::-1] -/
def revD (x : D) (M : Mem) : Option (D × Mem) := match x with
  | .tup xs => some (.tup xs.reverse, M)
  | x => match asList M x with
    | some xs => some (.obj M.length, M ++ [.lst xs.reverse])
    | none => none
def mRev (me : mE) : mE := fun δ M => (me δ M).bind fun r => revD r.1 r.2
theorem me_rev (he : PE X e (tM X.K me)) : PE X (.Subscript e (.Slice none none (some (.UnaryOp .USub (.Constant (.int 1) 0 p4) p3)) p2) pos) (tM X.K (mRev me)) :=
  PE.imp (pe_rev he) fun σ H Q ⟨ι, δ, M, d, M', hs, hm, he, k⟩ => by
    unfold mRev at he
    cases e1 : me δ M with
    | none => rw [e1] at he; cases he
    | some r =>
      rw [e1] at he
      simp only [Option.bind_some] at he
      refine ⟨ι, δ, M, r.1, r.2, hs, hm, e1, fun ι1 H1 v l1 m1 r1 => ?_⟩
      have k : Got X.K ι1 H1 M' d Q := fun ι4 H4 v l4 m4 r4 => k ι4 H4 v (l1.trans l4) m4 r4
      unfold revD at he
      split at he
      · rename_i xs ey; cases he
        rw [ey] at r1
        cases r1 with
        | @tup p _ vs h1 r2 => exact .inr ⟨_, _, rfl, h1, got_tup m1 r2.reverse k⟩
      · split at he
        · rename_i xs ex; cases he
          obtain ⟨p, vs, rfl, h1, r2⟩ := asList_rel m1 ex r1
          exact .inl ⟨p, vs, rfl, h1, got_lst m1 r2.reverse k⟩
        · cases he
/-- is, is not, between truths -/
def isBD (neg : Bool) (x y : D) (M : Mem) : Option (D × Mem) := match x, y with
  | .bl a, .bl b => some (.bl (if neg = true then !(a == b) else a == b), M)
  | _, _ => none
section
variable {a b : Expr} {ma mb : mE}
end
end Mir

/-! ### k in D, k not in D, D a dict of texts of the module -/
namespace L2
open PySem PySem.Spec
section
variable {X : Cx}
theorem tab_some : ∀ {tab : List (Str × Str)} {vs : List (Key × Value)} {k : Str}, vs.map (·.1) = tab.map (fun kv => (Sum.inr kv.1 : Key)) → (valueAt vs (Sum.inr k)).isSome = (tab.lookup k).isSome
  | [], [], k, _ => rfl
  | [], _ :: _, _, h => by cases h
  | _ :: _, [], _, h => by cases h
  | kv :: r, v :: vs, k, h => by
    simp only [List.map_cons, List.cons.injEq] at h
    obtain ⟨h1, h2⟩ := h
    have ih := tab_some (k := k) h2
    unfold valueAt at ih ⊢
    rw [List.find?_cons, List.lookup_cons, h1]
    by_cases ek : k = kv.1
    · subst ek; simp
    · have e1 : (k == kv.1) = false := by simpa using ek
      have e2 : decide ((Sum.inr kv.1 : Key) = Sum.inr k) = false := decide_eq_false (fun z => by cases z; exact ek rfl)
      rw [e1]
      simp only [e2]
      exact ih
theorem GDict.has {x : Str} {tab : List (Str × Str)} (g : GDict X.K X.w X.mg x tab) : ∃ a, X.mg x = some (.ref a) ∧ ∀ (pins : List (Addr × Obj)) (σ : St) (H : Hp) (s : Shared), Inv X pins σ H s →
    ∃ vs : List (Key × Value), s.heap.DictOf (mixKind X.prog X.w) a vs ∧ ∀ k, (valueAt vs (Sum.inr k)).isSome = (tab.lookup k).isSome := by
  obtain ⟨a, o, es, ep, h1, h2, h3, h4, h5, h6⟩ := g.ex
  refine ⟨a, h1, fun pins σ H s I => ?_⟩
  obtain ⟨vs, e1, e2, e3, e4⟩ := tab_dict (P := X.prog) h5
  refine ⟨vs, ⟨o, es, ep, I.kIn a o h2, h3, h4, fun e he => e3 e (by simpa using he), e2, ?_⟩, fun k => tab_some e1⟩
  rw [e1]
  have := nodup_inr h6
  rw [List.map_map] at this
  exact this
end
end L2
namespace Mir
open PySem PySem.Spec L2
variable {X : Cx} {a : Expr} {pos : Pos} {ma : mE}
end Mir

namespace Mir
open PySem PySem.Spec L2
variable {K : PySem.W.Frag}
section
variable {X : Cx} {a b : Expr} {pos : Pos} {ma mb : mE}
end
end Mir

set_option Elab.async false
set_option linter.all false
set_option maxRecDepth 100000
set_option maxHeartbeats 4000000
namespace HT
open PySem PySem.Spec PyProof.Rows
section
variable {prog : Program} {w : World} {A : Around} {E : Value → Shared → Prop} {s : Shared}
end
end HT
namespace L2
open PySem PySem.Spec PyProof.Rows
variable {X : Cx}
end L2
namespace Mir
open PySem L2
variable {X : Cx} {K : PySem.W.Frag}
variable {a b : Expr} {ma mb : mE} {pos : Pos}
end Mir

set_option Elab.async false
set_option linter.all false
set_option maxRecDepth 100000
set_option maxHeartbeats 4000000
/-! tuple(range(n)) -/
namespace L2
open PySem PySem.Spec PyProof.Rows
section
variable {prog : Program} {w : World} {A : Around} {E : Value → Shared → Prop} {s : Shared}
end
section
variable {prog : Program} {w : World} {A : Around} {E : Value → Shared → Prop} {s : Shared}
end
section
variable {X : Cx} {e : Expr} {ta : TA} {p p2 pos pos2 : Pos}
end
end L2
namespace Mir
open PySem PySem.Spec L2
variable {X : Cx} {e : Expr} {pos : Pos} {mr : mA}
/-! a, b = c, d with plain local names -/
end Mir

set_option Elab.async false
set_option linter.all false
set_option maxRecDepth 100000
set_option maxHeartbeats 4000000
/-! str of a whole number -/
namespace Mir
open PySem PySem.Spec L2
variable {K : PySem.W.Frag}
end Mir

set_option Elab.async false
set_option linter.all false
set_option maxRecDepth 100000
set_option maxHeartbeats 4000000
namespace Mir
open PySem PySem.Spec L2
section
variable {X : Cx} {e : Expr} {es : List Expr} {pos : Pos} {mr : mA} {st : Stmt}
/-! what is never run -/
end
section
variable {P : Program} {w : World} {K : PySem.W.Frag} {mg : Str → Option Value} {base : Heap}
/-! a def whose last parameter is None where it isn't given -/
structure FunD (K : PySem.W.Frag) (x qual : Str) (st : Stmt) (f : Addr) (fd : FuncData) : Prop where
  ex : ∃ (oc : Value) (od : Option Addr) (dV kV doc pm : Value) (an : Option Addr) (cdv ct : Value) (osl : Array (Option Value)),
    fd = PySem.W.fnOf x qual (defArgs st) (defBody st) (defScope st) dV kV doc pm an cdv ct ∧ K.lookup f = some ⟨oc, od, .func fd, osl⟩ ∧ PySem.W.codeIn K cdv qual = true
  kp : PySem.W.keepIn K (.ref f) = true
/-- a def as its callers see it, with the last parameter or without -/
structure DefD (P : Program) (w : World) (K : PySem.W.Frag) (mg : Str → Option Value) (base : Heap) (x : Str) (k : Nat) (ps : List Str) (f : List D → Mem → Option (D × Mem)) : Prop where
  ex : ∃ (a : Addr) (fd : FuncData), FnOk P w K mg base CX0 k a fd ps (spM K ps.length f) ∧ mg x = some (.ref a) ∧ PySem.W.keepIn K (.ref a) = true ∧ Binds K fd ps [] ∧ Binds K fd ps [.none]
theorem DefD.def {x : Str} {k : Nat} {ps : List Str} {f : List D → Mem → Option (D × Mem)} (h : DefD P w K mg base x k ps f) : Def P w K mg base x k ps f := by
  obtain ⟨a, fd, h1, h2, h3, h4, _⟩ := h.ex
  exact ⟨⟨a, fd, h1, h2, h3, h4⟩⟩
end
section
variable {X : Cx} {e : Expr} {es : List Expr} {pos : Pos} {mr : mA}
end
section
variable {P : Program} {w : World} {K : PySem.W.Frag} {mg : Str → Option Value} {base : Heap}
/-- as the top has made it -/
structure FFD (K : PySem.W.Frag) (mg : Str → Option Value) (x : Str) (sf : Stmt) (ps : List Str) (a : Addr) (fd : FuncData) : Prop where
  fn : FunD K x x sf a fd
  mg : mg x = some (.ref a)
  bi : Binds K fd ps []
  bn : Binds K fd ps [.none]
end
/-! a tuple of whole numbers and texts in a dict that is empty -/
section
variable {X : Cx} {a b : Expr} {pos : Pos} {ma mb : mE} {K : PySem.W.Frag}
end
end Mir

set_option Elab.async false
set_option linter.all false
set_option maxRecDepth 100000
set_option maxHeartbeats 4000000
namespace Mir
open PySem PySem.Spec L2
/-! ### dicts whose keys are tuples of whole numbers and texts -/
section
variable {X : Cx} {a b o e f : Expr} {es : List Expr} {pos : Pos} {ma mb mo mv : mE} {mr : mA} {K : PySem.W.Frag} {st : Stmt}
end
end Mir

set_option Elab.async false
set_option linter.all false
set_option maxRecDepth 100000
set_option maxHeartbeats 4000000
/-! sorted of triples of whole numbers -/
namespace Mir
open PySem PySem.Spec L2
variable {X : Cx} {K : PySem.W.Frag}
end Mir

set_option Elab.async false
set_option linter.all false
set_option maxRecDepth 100000
set_option maxHeartbeats 4000000
namespace HT
open PySem PySem.Spec PyProof.Rows
section
end
end HT
namespace L2
open PySem PySem.Spec PyProof.Rows
variable {X : Cx}
end L2
namespace Mir
open PySem L2
variable {X : Cx} {K : PySem.W.Frag}
variable {a b : Expr} {ma mb : mE} {pos : Pos}
end Mir

set_option Elab.async false
set_option linter.all false
set_option maxRecDepth 100000
set_option maxHeartbeats 4000000
namespace Mir
open PySem PySem.Spec L2
variable {X : Cx} {st : Stmt} {mp mo1 mi1 mo2 mi2 : mE}
/-! o[i], p[j] = v, w -/
end Mir

set_option Elab.async false
set_option linter.all false
set_option maxRecDepth 100000
set_option maxHeartbeats 4000000
/-! max(xs, default=d) of a tuple, too -/
namespace L2
open PySem PySem.Spec PyProof.Rows
section
variable {prog : Program} {w : World} {A : Around} {E : Value → Shared → Prop} {s : Shared} {l : Addr} {xs : Array (Int × Tok)}
end
section
variable {prog : Program} {w : World} {A : Around} {E : Value → Shared → Prop} {s : Shared}
end
section
variable {X : Cx} {e ev : Expr} {te tv : TE} {p pos kp : Pos}
end
end L2
namespace Mir
open PySem PySem.Spec L2
variable {X : Cx} {a b c e e2 ev o tg : Expr} {es rest : List Expr} {pos : Pos} {ma mb mc me mo mv : mE} {K : PySem.W.Frag} {ta tb : mT} {mr : mA} {st : Stmt} {sts : List Stmt} {m1 m2 : mS}
end Mir

set_option Elab.async false
set_option linter.all false
set_option maxRecDepth 100000
set_option maxHeartbeats 4000000
/-! range with a step -/
namespace Mir
open PySem PySem.Spec L2
variable {X : Cx} {tg a b c : Expr} {K : PySem.W.Frag} {mr : mA}
end Mir

set_option Elab.async false
set_option linter.all false
set_option maxRecDepth 100000
set_option maxHeartbeats 4000000
/-! dict comprehensions whose keys are tuples -/
namespace L2
open PySem PySem.Spec PyProof.Rows
section
variable {X : Cx} {pins : List (Addr × Obj)} {σ : St} {H : Hp} {s : Shared}
end
section
variable {X : Cx}
end
end L2

namespace Mir
open PySem PySem.Spec L2
variable {X : Cx}
end Mir

/-! (..) in d, the dict's keys tuples -/
namespace Mir
open PySem PySem.Spec L2
section
variable {X : Cx} {a b : Expr} {pos : Pos} {ma mb : mE} {K : PySem.W.Frag}
end
end Mir

set_option Elab.async false
set_option linter.all false
set_option maxRecDepth 100000
set_option maxHeartbeats 4000000
/-! x < y, the two whole numbers, texts, or tuples of whole numbers -/
namespace Mir
open PySem PySem.Spec L2
variable {X : Cx} {a b : Expr} {pos : Pos} {ma mb : mE} {K : PySem.W.Frag}
/-! not x as a value, x of any kind -/
end Mir

set_option Elab.async false
set_option linter.all false
set_option maxRecDepth 100000
set_option maxHeartbeats 4000000
/-! sorted of four whole numbers each: of whole numbers -/
namespace Mir
open PySem PySem.Spec L2
variable {X : Cx} {K : PySem.W.Frag}
end Mir

set_option Elab.async false
set_option linter.all false
set_option maxRecDepth 100000
set_option maxHeartbeats 4000000
/-! dict comprehensions whose keys are whole numbers or texts -/
namespace L2
open PySem PySem.Spec PyProof.Rows
section
variable {X : Cx} {pins : List (Addr × Obj)} {σ : St} {H : Hp} {s : Shared}
end
section
variable {X : Cx}
end
end L2

namespace Mir
open PySem PySem.Spec L2
variable {X : Cx}
end Mir

set_option Elab.async false
set_option linter.all false
set_option maxRecDepth 100000
set_option maxHeartbeats 4000000
/-! list.count of flat items; str.upper -/
namespace L2
open PySem PySem.Spec PyProof.Rows
section
variable {X : Cx}
end
end L2
namespace Mir
open PySem PySem.Spec L2
section
variable {X : Cx} {K : PySem.W.Frag} {o : Expr} {mo : mE}
end
end Mir

set_option Elab.async false
set_option linter.all false
set_option maxRecDepth 100000
set_option maxHeartbeats 4000000
/-! xs == [], xs != [], t == (): told by the lengths, whatever lies in them -/
namespace L2
open PySem PySem.Spec PyProof.Rows
section
variable {X : Cx}
end
end L2
namespace Mir
open PySem PySem.Spec L2
section
variable {X : Cx} {K : PySem.W.Frag} {a b : Expr} {pos : Pos} {ma mb : mE}
end
end Mir

set_option Elab.async false
set_option linter.all false
set_option maxRecDepth 100000
set_option maxHeartbeats 4000000
/-! a sign that is not in a text -/
namespace Mir
open PySem PySem.Spec L2
variable {X : Cx} {K : PySem.W.Frag} {a b : Expr} {pos : Pos} {ma mb : mE}
end Mir

set_option Elab.async false
set_option linter.all false
set_option maxRecDepth 100000
set_option maxHeartbeats 4000000
/-! dicts with tuple keys: walked (locked meanwhile), d[i, j, k], and stores whose key is a variable that holds a tuple -/
namespace L2
open PySem PySem.Spec PyProof.Rows Mir
variable {X : Cx}
end L2
namespace Mir
open PySem PySem.Spec L2
variable {X : Cx} {a b e tg : Expr} {es : List Expr} {pos p : Pos} {ma mb me mo mk mv : mE} {mr : mA} {K : PySem.W.Frag} {st : Stmt}
/-! ### a dict that is walked: locked meanwhile -/
/-! ### a store whose key is a variable that holds a tuple: in a def whose parameter it is -/
/-- the i-th parameter is a tuple of the heap -/
def spK (K : PySem.W.Frag) (n i : Nat) (f : List D → Mem → Option (D × Mem)) : Sp := fun vs H Q _ => ∃ ι ds M d M' b ws kd, ds.length = n ∧ RelDs K ι H ds vs ∧ RelM K ι H M ∧ f ds M = some (d, M') ∧ Got K ι H M' d Q ∧
  vs[i]? = some (.ref b) ∧ H b = some (.tup ws) ∧ b ∉ ι ∧ ds[i]? = some (.tup kd) ∧ RelDs K ι H kd ws
section
variable {P : Program} {w : World} {mg : Str → Option Value} {base : Heap}
end
structure DefK (P : Program) (w : World) (K : PySem.W.Frag) (mg : Str → Option Value) (base : Heap) (x : Str) (k : Nat) (ps : List Str) (f : List D → Mem → Option (D × Mem)) : Prop where
  ex : ∃ (a : Addr) (fd : FuncData), FnOk P w K mg base CX0 k a fd ps (spK K 3 1 f) ∧ mg x = some (.ref a) ∧ PySem.W.keepIn K (.ref a) = true ∧ Binds K fd ps []
end Mir

set_option Elab.async false
set_option linter.all false
set_option maxRecDepth 100000
set_option maxHeartbeats 4000000
/-! key = (..); d[key] = e, one behind the other -/
namespace Mir
open PySem PySem.Spec L2
variable {X : Cx} {mo mv : mE} {mr : mA} {K : PySem.W.Frag} {st1 st2 : Stmt}
end Mir

set_option Elab.async false
set_option linter.all false
set_option maxRecDepth 100000
set_option maxHeartbeats 4000000
/-! name = {k: v for ..} on one line, the name a local -/
namespace L2
open PySem PySem.Spec PyProof.Rows
variable {X : Cx}
end L2
namespace Mir
open PySem PySem.Spec L2
variable {X : Cx}
end Mir

set_option Elab.async false
set_option linter.all false
set_option maxRecDepth 100000
set_option maxHeartbeats 4000000
namespace Mir
open PySem PySem.Spec L2
/-- a def of the module that is told loosely (it has a default): its code with its table -/
structure LooseTab (K : PySem.W.Frag) (h : Heap) (x : Str) : Prop where
  mk :: (ex : ∃ a o fd c P oc vs file tf flags tg inF text tt, PySem.W.nsIn K mainGlobals x = some (some (.ref a)) ∧ K.lookup a = some o ∧ o.data = .func fd ∧ fd.code = .ref c ∧ K.lookup c = some oc ∧ oc.cls = .type "code" ∧ oc.data = .fields vs ∧ vs[11]? = some (.ref P) ∧
    vs.getD 11 .none = .ref P ∧ vs.getD 18 .none = .str file tf ∧ vs.getD 7 .none = .int flags tg ∧ vs.getD 9 .none = .bool inF ∧ vs.getD 10 .none = .int text tt ∧ h.get? P = some ⟨.none, none, .fields #[], #[]⟩)
end Mir

set_option Elab.async false
set_option linter.all false
set_option maxRecDepth 100000
set_option maxHeartbeats 4000000
/-! list(zip(xs, ys)), tuple(zip(xs, ys)) of two lists of whole numbers, alike long -/
namespace L2
open PySem PySem.Spec PyProof.Rows
/-- a zip whose tuple has been handed out -/
abbrev IsZipB (h : Heap) (z TI TO q : Addr) (b : Bool) : Prop :=
  h.get? z = some { cls := .type "zip", dict := none, data := .fields #[rawInt q, .bool b, .bool false, .ref TI, .ref TO], slots := #[] }
section
variable {prog : Program} {w : World} {A : Around} {E : Value → Shared → Prop} {s : Shared} {z TI TO i1 i2 q : Addr} {f1 f2 : List Addr} {n1 n2 k : Nat} {P1 P2 : Nat → Value → Prop} {S1 S2 : Nat → Heap → Prop} {bb : Bool}
theorem notFree {Q : Bool → Shared → Prop} {oq : Obj} (hz : IsZipB s.heap z TI TO q bb) (hq : s.heap.get? q = some oq)
    (h : ∀ h', IsZipB h' z TI TO q true → Heap.SameBut z s.heap h' → Q false { s with heap := h' }) : wpAny (model prog w) A (Builtin.SmallTypes.ownedTupleIsFree (.ref z)) Q E s := by
  unfold Builtin.SmallTypes.ownedTupleIsFree
  refine wpAny_bind (wpAny_field hz rfl (x := rawInt q) rfl ?_)
  show wpAny _ _ (loadIfAlive (Int.toNat (q : Nat)) >>= _) _ _ _
  rw [Int.toNat_natCast]
  refine wpAny_bind (PySem.W.kdx_alive hq ?_)
  simp only [Option.isNone_some, Bool.false_eq_true, if_false]
  refine wpAny_bind (wpAny_field hz rfl (x := .bool bb) rfl ?_)
  cases bb with
  | true =>
    simp only [bne_self_eq_false, Bool.false_eq_true, if_false]
    exact wpAny_pure (h _ hz ⟨rfl, fun _ _ => rfl⟩)
  | false =>
    rw [if_pos (by decide)]
    refine wpAny_bind (wpAny_setField_rec hz (by simp) fun h₁ hz₁ hs₁ => ?_)
    exact wpAny_pure (h h₁ hz₁ hs₁)
theorem zipB_item {oq : Obj} {Q : Value → Shared → Prop} (D1 : Drw prog w A i1 f1 n1 P1 S1) (D2 : Drw prog w A i2 f2 n2 P2 S2) (D : ZipA z TI TO i1 i2 f1 f2)
    (hz : IsZipB s.heap z TI TO q bb) (hq : s.heap.get? q = some oq) (hTI : IsPair s.heap TI (.ref i1) (.ref i2)) (h1 : S1 k s.heap) (h2 : S2 k s.heap) (hk1 : k < n1) (hk2 : k < n2)
    (hQ : ∀ x y h' tk, P1 k x → P2 k y → IsZipB h' z TI TO q true → S1 (k + 1) h' → S2 (k + 1) h' → IsPair h' s.heap.objs.size x y → h'.objs.size = s.heap.objs.size + 1 →
      (∀ c o, c ≠ z → c ≠ i1 → c ≠ i2 → s.heap.get? c = some o → h'.get? c = some o) → Q (.ref s.heap.objs.size) { s with heap := h', toks := tk }) :
    wpAny (model prog w) A (Builtin.«zip.__next__» ⟨[.ref z], []⟩) (fun fin s' => ∃ v, fin = .done (.ret v) ∧ Q v s') E s := by
  show wpAny _ _ (field (.ref z) 2 >>= _) _ _ _
  refine wpAny_bind (wpAny_field hz rfl (x := .bool false) rfl ?_)
  show wpAny _ _ (field (.ref z) 3 >>= _) _ _ _
  refine wpAny_bind (wpAny_field hz rfl (x := .ref TI) rfl ?_)
  refine wpAny_bind (wpAny_seqItems hTI rfl ?_)
  show wpAny _ _ (Builtin.SmallTypes.ownedTupleIsFree (.ref z) >>= _) _ _ _
  refine wpAny_bind (notFree hz hq fun h₁ hz₁ hs₁ => ?_)
  simp only [Bool.false_eq_true, if_false]
  refine wpAny_bind ?_
  simp only [List.forIn_cons, List.forIn_nil, ← Array.forIn_toList]
  refine wpAny_bind (wpAny_bind (wpAny_holding ?_))
  show wpAny _ _ (Builtin.SmallTypes.nextOf (.ref i1) >>= _) _ _ _
  refine wpAny_bind (D1.item k _ _ _ hk1 (D1.but h1 hs₁.extBut D.f1z) fun x h₂ tk₂ hPx h1₂ hs₂ => wpAny_pure ?_)
  refine wpAny_pure ?_
  refine wpAny_bind (wpAny_bind (wpAny_holding ?_))
  show wpAny _ _ (Builtin.SmallTypes.nextOf (.ref i2) >>= _) _ _ _
  refine wpAny_bind (D2.item k _ _ _ hk2 (D2.but (D2.but h2 hs₁.extBut D.f2z) hs₂.extBut D.f2i) fun y h₄ tk₄ hPy h2₄ hs₄ => wpAny_pure ?_)
  refine wpAny_pure (wpAny_pure ?_)
  replace hs₂ : Heap.SameBut i1 h₁ h₂ := hs₂
  replace hs₄ : Heap.SameBut i2 h₂ h₄ := hs₄
  refine wpAny_bind (wpAny_newTuple ?_ (by show 2 ≤ sizeLine; decide))
  have hsz : h₄.objs.size = s.heap.objs.size := by rw [hs₄.1, hs₂.1, hs₁.1]
  have hz₄ : IsZipB h₄ z TI TO q true := hs₄.extBut _ _ D.i2z.symm (hs₂.extBut _ _ D.i1z.symm hz₁)
  have hk₄ : ∀ c o, c ≠ z → c ≠ i1 → c ≠ i2 → s.heap.get? c = some o → h₄.get? c = some o := fun c o c1 c3 c4 e =>
    hs₄.extBut _ _ c4 (hs₂.extBut _ _ c3 (hs₁.extBut _ _ c1 e))
  have h1₄ : S1 (k + 1) h₄ := D1.but h1₂ hs₄.extBut D.f1i
  refine wpAny_pure ⟨_, rfl, ?_⟩
  show Q (.ref h₄.objs.size) _
  have up : ∀ c o, h₄.get? c = some o → (h₄.push { cls := .type "tuple", data := .seq #[x, y] }).get? c = some o := fun c o e => Heap.get?_push_of_some _ e
  have key := hQ x y (h₄.push { cls := .type "tuple", data := .seq #[x, y] }) tk₄ hPx hPy (up _ _ hz₄) (D1.frame _ _ _ h1₄ fun b _ o e => up b o e) (D2.frame _ _ _ h2₄ fun b _ o e => up b o e)
    (by rw [← hsz]; exact Heap.get?_push_size _ rfl) (by rw [Heap.size_push, hsz]) fun c o c1 c3 c4 e => up c o (hk₄ c o c1 c3 c4 e)
  rw [hsz]
  exact key
theorem zipB_end {oq : Obj} {Q : Fin → Shared → Prop} (D1 : Drw prog w A i1 f1 n1 P1 S1) (D : ZipA z TI TO i1 i2 f1 f2)
    (hz : IsZipB s.heap z TI TO q bb) (hq : s.heap.get? q = some oq) (hTI : IsPair s.heap TI (.ref i1) (.ref i2)) (h1 : S1 k s.heap) (hend : n1 ≤ k)
    (hE : ∀ h' e tk, (∀ c o, c ≠ z → c ≠ i1 → s.heap.get? c = some o → h'.get? c = some o) → (∃ o, h'.get? e = some o ∧ o.cls = .type "StopIteration") → E (.ref e) { s with heap := h', toks := tk }) :
    wpAny (model prog w) A (Builtin.«zip.__next__» ⟨[.ref z], []⟩) Q E s := by
  show wpAny _ _ (field (.ref z) 2 >>= _) _ _ _
  refine wpAny_bind (wpAny_field hz rfl (x := .bool false) rfl ?_)
  show wpAny _ _ (field (.ref z) 3 >>= _) _ _ _
  refine wpAny_bind (wpAny_field hz rfl (x := .ref TI) rfl ?_)
  refine wpAny_bind (wpAny_seqItems hTI rfl ?_)
  show wpAny _ _ (Builtin.SmallTypes.ownedTupleIsFree (.ref z) >>= _) _ _ _
  refine wpAny_bind (notFree hz hq fun h₁ hz₁ hs₁ => ?_)
  simp only [Bool.false_eq_true, if_false]
  refine wpAny_bind ?_
  simp only [List.forIn_cons, List.forIn_nil, ← Array.forIn_toList]
  refine wpAny_bind (wpAny_bind (wpAny_holding ?_))
  show wpAny _ _ (Builtin.SmallTypes.nextOf (.ref i1) >>= _) _ _ _
  refine wpAny_bind (D1.done k _ _ _ hend (D1.but h1 hs₁.extBut D.f1z) fun h₂ e hs₂ he => ?_)
  replace hs₂ : Heap.ExtBut i1 h₁ h₂ := hs₂
  exact hE h₂ e s.toks (fun c o c1 c3 x => hs₂ _ _ c3 (hs₁.extBut _ _ c1 x)) he
theorem next_zipB_item {oq : Obj} {Q : Option Value → Shared → Prop} (D1 : Drw prog w A.in1 i1 f1 n1 P1 S1) (D2 : Drw prog w A.in1 i2 f2 n2 P2 S2) (D : ZipA z TI TO i1 i2 f1 f2)
    (hz : IsZipB s.heap z TI TO q bb) (hq : s.heap.get? q = some oq) (hTI : IsPair s.heap TI (.ref i1) (.ref i2)) (h1 : S1 k s.heap) (h2 : S2 k s.heap) (hk1 : k < n1) (hk2 : k < n2)
    (hQ : ∀ x y h' tk, P1 k x → P2 k y → IsZipB h' z TI TO q true → S1 (k + 1) h' → S2 (k + 1) h' → IsPair h' s.heap.objs.size x y → h'.objs.size = s.heap.objs.size + 1 →
      (∀ c o, c ≠ z → c ≠ i1 → c ≠ i2 → s.heap.get? c = some o → h'.get? c = some o) → Q (some (.ref s.heap.objs.size)) { s with heap := h', toks := tk }) :
    wpAny (model prog w) A (pyNext (.ref z)) Q E s := by
  have hT : s.TypeIs (.ref z) "zip" := ⟨_, hz, rfl⟩
  unfold pyNext
  exact wpAny_bind (wpAny_attempt (wpAny_callSpecial?_slot (name := Str.ofString "__next__") hT F.slot_zip_next
    (wpAny_call_entry F.slot_zip_next hT F.entry_zip_next
      (zipB_item D1 D2 D hz hq hTI h1 h2 hk1 hk2 fun x y h' tk b1 b2 a1 a3 a4 a5 a6 a7 => wpAny_pure (hQ x y h' tk b1 b2 a1 a3 a4 a5 a6 a7)) (F.args_zip_next_1 _))))
theorem next_zipB_end {oq : Obj} {Q : Option Value → Shared → Prop} (D1 : Drw prog w A.in1 i1 f1 n1 P1 S1) (D : ZipA z TI TO i1 i2 f1 f2)
    (hz : IsZipB s.heap z TI TO q bb) (hq : s.heap.get? q = some oq) (hTI : IsPair s.heap TI (.ref i1) (.ref i2)) (h1 : S1 k s.heap) (hend : n1 ≤ k)
    (hQ : ∀ h' tk, (∀ c o, c ≠ z → c ≠ i1 → s.heap.get? c = some o → h'.get? c = some o) → Q none { s with heap := h', toks := tk }) : wpAny (model prog w) A (pyNext (.ref z)) Q E s := by
  have hT : s.TypeIs (.ref z) "zip" := ⟨_, hz, rfl⟩
  unfold pyNext
  refine wpAny_bind (wpAny_attempt (wpAny_callSpecial?_slot (name := Str.ofString "__next__") hT F.slot_zip_next
    (wpAny_call_entry F.slot_zip_next hT F.entry_zip_next (zipB_end D1 D hz hq hTI h1 hend fun h' e tk hk he => ?_) (F.args_zip_next_1 _))))
  obtain ⟨o, ho, hc⟩ := he
  refine wpAny_bind (wpAny_isInstance (T := "StopIteration") (b := true) ⟨o, ho, hc⟩ isSubtype_stop ?_)
  exact wpAny_pure (hQ _ _ hk)
end
section
variable {prog : Program} {w : World} {A : Around} {s : Shared} {z TI TO i1 i2 S base : Addr} {f1 f2 : List Addr} {n : Nat} {P1 P2 : Nat → Value → Prop} {S1 S2 : Nat → Heap → Prop}
structure ZSt (z TI TO i1 i2 base : Addr) (S1 S2 : Nat → Heap → Prop) (i : Nat) (h : Heap) : Prop where
  ti : IsPair h TI (.ref i1) (.ref i2)
  s1 : S1 i h
  s2 : S2 i h
  big : base ≤ h.objs.size
  way : (i = 0 ∧ IsZip h z TI TO .none ∧ ∃ a b, IsPair h TO a b) ∨ ∃ q bb oq, base ≤ q ∧ h.get? q = some oq ∧ IsZipB h z TI TO q bb
structure ZMade (base : Addr) (P1 P2 : Nat → Value → Prop) (i : Nat) (acc : Array Value) (h : Heap) : Prop where
  size : acc.size = i
  at' : ∀ j v, acc[j]? = some v → ∃ q x y, v = .ref q ∧ base ≤ q ∧ P1 j x ∧ P2 j y ∧ IsPair h q x y
structure ZApart (z TI TO i1 i2 S base : Addr) (f1 f2 : List Addr) : Prop where
  zip : ZipA z TI TO i1 i2 f1 f2
  Sz : S ≠ z
  STI : S ≠ TI
  STO : S ≠ TO
  Si1 : S ≠ i1
  Si2 : S ≠ i2
  Sf1 : S ∉ f1
  Sf2 : S ∉ f2
  zb : z < base
  TOb : TO < base
  i1b : i1 < base
  i2b : i2 < base
  Sb : S < base
theorem extend_zip_loop {R : Result → Shared → Prop} (D1 : Drw prog w A.in1.in1 i1 f1 n P1 S1) (D2 : Drw prog w A.in1.in1 i2 f2 n P2 S2) (D : ZApart z TI TO i1 i2 S base f1 f2) (hn : n ≤ sizeLine) (res : Value) :
    ∀ (k i : Nat) (s : Shared) (acc : Array Value) (c : Nat), n - i = k → i ≤ n → ZSt z TI TO i1 i2 base S1 S2 i s.heap → s.heap.get? S = some { cls := .type "list", dict := none, data := .seq acc c, slots := #[] } → ZMade base P1 P2 i acc s.heap →
    (∀ h' tk acc' c', (∀ b o, b ≠ S → b ≠ z → b ≠ TO → b ≠ i1 → b ≠ i2 → s.heap.get? b = some o → h'.get? b = some o) → h'.get? S = some { cls := .type "list", dict := none, data := .seq acc' c', slots := #[] } → ZMade base P1 P2 n acc' h' → R (.ok (.ret res)) { s with heap := h', toks := tk }) →
    codeAny (model prog w) A (.builtin "list.extend.loop" ⟨[.ref S, .ref z, res], []⟩) R s := by
  intro k
  induction k with
  | zero =>
    intro i s acc c hk hi st hS hacc hR
    have hin : i = n := by omega
    subst hin
    refine codeAny_builtin F.entry_extend_loop ?_
    rw [Around.under_plainId F.plain_extend_loop _]
    show wpAny _ A.in1 (pyNext (.ref z) >>= _) _ _ s
    have fin : ∀ h' tk, (∀ c o, c ≠ z → c ≠ TO → c ≠ i1 → c ≠ i2 → s.heap.get? c = some o → h'.get? c = some o) → R (.ok (.ret res)) { s with heap := h', toks := tk } := fun h' tk kp => by
      refine hR h' tk acc c (fun b o b1 b2 b3 b4 b5 e => kp b o b2 b3 b4 b5 e) (kp S _ D.Sz D.STO D.Si1 D.Si2 hS) ⟨hacc.size, fun j v e => ?_⟩
      obtain ⟨q, x, y, e1, e2, e3, e4, e5⟩ := hacc.at' j v e
      exact ⟨q, x, y, e1, e2, e3, e4, kp q _ (Nat.ne_of_gt (Nat.lt_of_lt_of_le D.zb e2)) (Nat.ne_of_gt (Nat.lt_of_lt_of_le D.TOb e2)) (Nat.ne_of_gt (Nat.lt_of_lt_of_le D.i1b e2)) (Nat.ne_of_gt (Nat.lt_of_lt_of_le D.i2b e2)) e5⟩
    rcases st.way with ⟨_, hz, a, b, hTO⟩ | ⟨q, bb, oq, hb, hq, hz⟩
    · exact wpAny_bind (next_zipG_end D1 D2 D.zip hz st.ti hTO st.s1 st.s2 (.inl (Nat.le_refl _)) fun h' tk kp => wpAny_pure (fin h' tk kp))
    · exact wpAny_bind (next_zipB_end D1 D.zip hz hq st.ti st.s1 (Nat.le_refl _) fun h' tk kp => wpAny_pure (fin h' tk fun c o c1 _ c3 _ e => kp c o c1 c3 e))
  | succ k ih =>
    intro i s acc c hk hi st hS hacc hR
    have hlt : i < n := by omega
    refine codeAny_builtin F.entry_extend_loop ?_
    rw [Around.under_plainId F.plain_extend_loop _]
    show wpAny _ A.in1 (pyNext (.ref z) >>= _) _ _ s
    -- one more item
    have step : ∀ x y h' tk, P1 i x → P2 i y → (∃ bb, ∃ q, (q = s.heap.objs.size ∨ (base ≤ q ∧ ∃ oq, s.heap.get? q = some oq)) ∧ IsZipB h' z TI TO q bb) → S1 (i + 1) h' → S2 (i + 1) h' → IsPair h' s.heap.objs.size x y → h'.objs.size = s.heap.objs.size + 1 →
        (∀ c o, c ≠ z → c ≠ TO → c ≠ i1 → c ≠ i2 → s.heap.get? c = some o → h'.get? c = some o) → ∀ (E : Value → Shared → Prop) , E = (fun e s' => R (.error e) s') →
        wpAny (model prog w) A.in1 (updateSeq S (·.push (.ref s.heap.objs.size)) >>= fun _ => again (.builtin "list.extend.loop" ⟨[.ref S, .ref z, res], []⟩))
          (fun fin s' => match fin with | .done f => R (.ok f) s' | .again c' => c'.quiet = true ∧ codeAny (model prog w) A c' R s') E { s with heap := h', toks := tk } := by
      intro x y h' tk p1 p2 hzq a1 a2 hp hsz kp E hE
      subst hE
      have hS' := kp S _ D.Sz D.STO D.Si1 D.Si2 hS
      refine wpAny_bind ?_
      have oth : ∀ b o, b ≠ S → h'.get? b = some o → (h'.update S (Obj.mapSeq (·.push (.ref s.heap.objs.size)))).get? b = some o := fun b o hb e => (Heap.get?_update_other _ _ (Ne.symm hb)).trans e
      have hbS : ∀ q, base ≤ q → q ≠ S := fun q h => Nat.ne_of_gt (Nat.lt_of_lt_of_le D.Sb h)
      refine wpAny_updateSeq hS' rfl (wpAny_pure ⟨plainId_quiet F.plain_extend_loop _, ih (i + 1) _ (acc.push (.ref s.heap.objs.size)) _ (by omega) hlt ⟨oth _ _ D.STI.symm (kp _ _ D.zip.TIz D.zip.TITO D.zip.TIi1 D.zip.TIi2 st.ti), ?_, ?_, ?_, .inr ?_⟩ (Heap.get?_update_self _ hS' rfl) ⟨?_, fun j v e => ?_⟩ fun h'' tk' acc' c' kp2 hS'' hm => ?_⟩)
        (by rw [hacc.size]; omega) (by show (acc.push _).size ≤ sizeLine + 1; rw [Array.size_push, hacc.size]; omega)
      · exact D1.frame _ _ _ a1 fun b hb o e => oth b o (fun q => D.Sf1 (q ▸ hb)) e
      · exact D2.frame _ _ _ a2 fun b hb o e => oth b o (fun q => D.Sf2 (q ▸ hb)) e
      · show base ≤ (h'.update S _).objs.size
        rw [Heap.size_update, hsz]
        exact Nat.le_succ_of_le st.big
      · obtain ⟨bb, q, hq, hz⟩ := hzq
        rcases hq with rfl | ⟨hb, oq, hq⟩
        · exact ⟨_, bb, _, st.big, oth _ _ (hbS _ st.big) hp, oth _ _ D.Sz.symm hz⟩
        · exact ⟨q, bb, oq, hb, oth _ _ (hbS _ hb) (kp q _ (Nat.ne_of_gt (Nat.lt_of_lt_of_le D.zb hb)) (Nat.ne_of_gt (Nat.lt_of_lt_of_le D.TOb hb)) (Nat.ne_of_gt (Nat.lt_of_lt_of_le D.i1b hb)) (Nat.ne_of_gt (Nat.lt_of_lt_of_le D.i2b hb)) hq), oth _ _ D.Sz.symm hz⟩
      · rw [Array.size_push, hacc.size]
      · rw [Array.getElem?_push] at e
        split at e
        · rename_i ej; cases e
          rw [hacc.size] at ej
          subst ej
          exact ⟨_, x, y, rfl, st.big, p1, p2, oth _ _ (hbS _ st.big) hp⟩
        · obtain ⟨q, x', y', e1, e2, e3, e4, e5⟩ := hacc.at' j v e
          exact ⟨q, x', y', e1, e2, e3, e4, oth _ _ (hbS _ e2) (kp q _ (Nat.ne_of_gt (Nat.lt_of_lt_of_le D.zb e2)) (Nat.ne_of_gt (Nat.lt_of_lt_of_le D.TOb e2)) (Nat.ne_of_gt (Nat.lt_of_lt_of_le D.i1b e2)) (Nat.ne_of_gt (Nat.lt_of_lt_of_le D.i2b e2)) e5)⟩
      · exact hR h'' tk' acc' c' (fun b o b1 b2 b3 b4 b5 e => kp2 b o b1 b2 b3 b4 b5 (oth b o b1 (kp b o b2 b3 b4 b5 e))) hS'' hm
    rcases st.way with ⟨_, hz, a, b, hTO⟩ | ⟨q, bb, oq, hb, hq, hz⟩
    · exact wpAny_bind (next_zipG_item D1 D2 D.zip hz st.ti hTO st.s1 st.s2 hlt hlt fun x y h' tk p1 p2 z' TO' a1 a2 hp hsz kp => step x y h' tk p1 p2 ⟨false, _, .inl rfl, z'⟩ a1 a2 hp hsz kp _ rfl)
    · exact wpAny_bind (next_zipB_item D1 D2 D.zip hz hq st.ti st.s1 st.s2 hlt hlt fun x y h' tk p1 p2 z' a1 a2 hp hsz kp => step x y h' tk p1 p2 ⟨true, q, .inr ⟨hb, oq, hq⟩, z'⟩ a1 a2 hp hsz (fun c o c1 _ c3 c4 e => kp c o c1 c3 c4 e) _ rfl)
end
section
variable {prog : Program} {w : World} {A : Around} {s : Shared} {z TI TO i1 i2 S base : Addr} {f1 f2 : List Addr} {n : Nat} {P1 P2 : Nat → Value → Prop} {S1 S2 : Nat → Heap → Prop}
theorem ZSt.start (hTI : IsPair s.heap TI (.ref i1) (.ref i2)) {h : Heap} (st : ZSt z TI TO i1 i2 base S1 S2 0 s.heap) (hz : IsZip s.heap z TI TO .none) : True := trivial
theorem extend_zip {R : Result → Shared → Prop} {c₀ : Nat} (D1 : Drw prog w A.in1.in1 i1 f1 n P1 S1) (D2 : Drw prog w A.in1.in1 i2 f2 n P2 S2) (D : ZApart z TI TO i1 i2 S base f1 f2) (hn : n ≤ sizeLine) (res : Value)
    (hz : IsZip s.heap z TI TO .none) (hTI : IsPair s.heap TI (.ref i1) (.ref i2)) (hTO : ∃ a b, IsPair s.heap TO a b) (h1 : S1 0 s.heap) (h2 : S2 0 s.heap) (hb : base ≤ s.heap.objs.size) (hS : s.heap.get? S = some { cls := .type "list", data := .seq #[] c₀ })
    (hR : ∀ h' tk acc' c', (∀ b o, b ≠ S → b ≠ z → b ≠ TO → b ≠ i1 → b ≠ i2 → s.heap.get? b = some o → h'.get? b = some o) → h'.get? S = some { cls := .type "list", dict := none, data := .seq acc' c', slots := #[] } → ZMade base P1 P2 n acc' h' → R (.ok (.ret res)) { s with heap := h', toks := tk }) :
    wpAny (model prog w) A.in1 (Builtin.List.listExtendWith (.ref S) (.ref z) res)
      (fun fin s' => match fin with | .done f => R (.ok f) s' | .again c' => c'.quiet = true ∧ codeAny (model prog w) A c' R s') (fun e s' => R (.error e) s') s := by
  have hT : s.TypeIs (.ref z) "zip" := ⟨_, hz, rfl⟩
  obtain ⟨x0, y0, hTO⟩ := hTO
  unfold Builtin.List.listExtendWith
  refine wpAny_bind (wpAny_typeOf hT ?_)
  have e1 : Builtin.List.listSameRef (.ref S) (.ref z) = false := by simp [Builtin.List.listSameRef, D.Sz]
  have e2 : (Value.type "zip" == Value.type "list") = false := by decide
  have e3 : (Value.type "zip" == Value.type "tuple") = false := by decide
  simp only [e1, e2, e3, Bool.or_false, Bool.false_eq_true, if_false]
  refine wpAny_bind (wpAny_pyIter_zip hz ?_)
  refine wpAny_bind (wpAny_holding (hint_zip hT fun b => ?_))
  have go : ∀ (h : Heap) (c₁ : Nat), (∀ b o, b ≠ S → s.heap.get? b = some o → h.get? b = some o) → h.objs.size = s.heap.objs.size → h.get? S = some { cls := .type "list", data := .seq #[] c₁ } →
      codeAny (model prog w) A (.builtin "list.extend.loop" ⟨[.ref S, .ref z, res], []⟩) R { s with heap := h } := fun h c₁ oth hsz hS' => by
    refine extend_zip_loop D1 D2 D hn res n 0 _ #[] c₁ rfl (Nat.zero_le _) ⟨oth _ _ D.STI.symm hTI, D1.frame _ _ _ h1 fun b hb o e => oth b o (fun q => D.Sf1 (q ▸ hb)) e, D2.frame _ _ _ h2 fun b hb o e => oth b o (fun q => D.Sf2 (q ▸ hb)) e, by show base ≤ h.objs.size; rw [hsz]; exact hb, .inl ⟨rfl, oth _ _ D.Sz.symm hz, _, _, oth _ _ D.STO.symm hTO⟩⟩ hS' ⟨rfl, fun j v e => by simp at e⟩ fun h' tk acc' c' kp hS'' hm => ?_
    exact hR h' tk acc' c' (fun b o b1 b2 b3 b4 b5 e => kp b o b1 b2 b3 b4 b5 (oth b o b1 e)) hS'' hm
  refine wpAny_ite_split (fun _ => ?_) (fun _ => ?_)
  · refine wpAny_bind (wpAny_rule ?_)
    refine wpAny_bind ?_
    show wpAny _ A.in1 (updateSeq S (·.push .none) >>= fun _ => updateSeq S (·.pop)) _ _ _
    refine wpAny_bind (wpAny_updateSeq hS rfl ?_)
    have hS₂ := Heap.get?_update_self (Obj.mapSeq (·.push Value.none)) hS rfl
    refine wpAny_updateSeq (hz := by seq_fits) hS₂ rfl ?_
    have hS₃ := Heap.get?_update_self (Obj.mapSeq (·.pop)) hS₂ rfl
    refine wpAny_pure ⟨plainId_quiet F.plain_extend_loop _, go _ _ (fun b o hb e => (Heap.get?_update_other _ _ (Ne.symm hb)).trans ((Heap.get?_update_other _ _ (Ne.symm hb)).trans e)) (by rw [Heap.size_update, Heap.size_update]) hS₃⟩
  · exact wpAny_pure ⟨plainId_quiet F.plain_extend_loop _, go _ _ (fun _ _ _ e => e) rfl hS⟩
theorem collect_zip {E : Value → Shared → Prop} {Q : List Value → Shared → Prop} (D1 : Drw prog w A.in1.in1 i1 f1 n P1 S1) (D2 : Drw prog w A.in1.in1 i2 f2 n P2 S2) (D : ZApart z TI TO i1 i2 s.heap.objs.size (s.heap.objs.size + 1) f1 f2) (hn : n ≤ sizeLine)
    (hz : IsZip s.heap z TI TO .none) (hTI : IsPair s.heap TI (.ref i1) (.ref i2)) (hTO : ∃ a b, IsPair s.heap TO a b) (h1 : S1 0 s.heap) (h2 : S2 0 s.heap)
    (hQ : ∀ h' tk acc, (∀ b o, b ≠ z → b ≠ TO → b ≠ i1 → b ≠ i2 → s.heap.get? b = some o → h'.get? b = some o) → ZMade (s.heap.objs.size + 1) P1 P2 n acc h' → Q acc.toList { s with heap := h', toks := tk }) :
    wpAny (model prog w) A (collect (.ref z)) Q E s := by
  unfold collect
  refine wpAny_bind (wpAny_runValue (codeAny_builtin F.entry_proto_collect ?_))
  rw [Around.under_plainId F.plain_proto_collect _]
  show wpAny _ A.in1 (newList [] >>= fun l => again (.builtin "list.__iadd__" ⟨[l, .ref z], []⟩)) _ _ s
  refine wpAny_bind (wpAny_newObj_type ?_)
  refine wpAny_pure ⟨plainId_quiet F.plain_list_iadd _, codeAny_builtin F.entry_list_iadd ?_⟩
  rw [Around.under_plainId F.plain_list_iadd _]
  have hS₁ : (s.heap.push { cls := .type "list", data := .seq ([] : List Value).toArray }).get? s.heap.objs.size = some { cls := .type "list", data := .seq #[] } := Heap.get?_push_size _ rfl
  show wpAny _ A.in1 (Builtin.List.listExtendWith (.ref s.heap.objs.size) (.ref z) (.ref s.heap.objs.size)) _ _ _
  obtain ⟨x0, y0, hTO⟩ := hTO
  have up : ∀ b o, s.heap.get? b = some o → (s.heap.push { cls := .type "list", data := .seq ([] : List Value).toArray }).get? b = some o := fun b o e => Heap.get?_push_of_some _ e
  have key := extend_zip (A := A) (s := { s with heap := s.heap.push { cls := .type "list", data := .seq ([] : List Value).toArray } }) (R := fun rr s' => match rr with
      | .ok (.ret v) => wpAny (model prog w) A (match v with
        | .ref a => do
          let o ← load a
          match o.data with
          | .seq xs epoch => pure xs.toList
          | x => unsupported "internal:collect"
        | x => unsupported "internal:collect") Q E s'
      | .ok _ => False
      | .error e => E e s') D1 D2 D hn (.ref s.heap.objs.size) (up _ _ hz) (up _ _ hTI) ⟨_, _, up _ _ hTO⟩ (D1.frame _ _ _ h1 fun b _ o e => up b o e) (D2.frame _ _ _ h2 fun b _ o e => up b o e) (by show _ ≤ (s.heap.push _).objs.size; rw [Heap.size_push]; exact Nat.le_refl _) hS₁ (fun h' tk acc' c' kp hS' hm => by
        show wpAny _ A (load s.heap.objs.size >>= _) _ _ _
        refine wpAny_bind (wpAny_load hS' ?_)
        exact wpAny_pure (hQ h' tk acc' (fun b o b2 b3 b4 b5 e => kp b o (Nat.ne_of_lt (Heap.lt_size e)) b2 b3 b4 b5 (up b o e)) hm))
  exact key
theorem init_zip {R : Result → Shared → Prop} (D1 : Drw prog w A.in1.in1 i1 f1 n P1 S1) (D2 : Drw prog w A.in1.in1 i2 f2 n P2 S2) (D : ZApart z TI TO i1 i2 S base f1 f2) (hn : n ≤ sizeLine)
    (hz : IsZip s.heap z TI TO .none) (hTI : IsPair s.heap TI (.ref i1) (.ref i2)) (hTO : ∃ a b, IsPair s.heap TO a b) (h1 : S1 0 s.heap) (h2 : S2 0 s.heap) (hb : base ≤ s.heap.objs.size) (hS : s.heap.get? S = some { cls := .type "list", data := .seq #[] })
    (hR : ∀ h' tk acc' c', (∀ b o, b ≠ S → b ≠ z → b ≠ TO → b ≠ i1 → b ≠ i2 → s.heap.get? b = some o → h'.get? b = some o) → h'.get? S = some { cls := .type "list", dict := none, data := .seq acc' c', slots := #[] } → ZMade base P1 P2 n acc' h' → R (.ok (.ret .none)) { s with heap := h', toks := tk }) :
    wpAny (model prog w) A.in1 (Builtin.«list.__init__» ⟨[.ref S, .ref z], []⟩)
      (fun fin s' => match fin with | .done f => R (.ok f) s' | .again c' => c'.quiet = true ∧ codeAny (model prog w) A c' R s') (fun e s' => R (.error e) s') s := by
  show wpAny _ A.in1 (do let old ← Builtin.List.listItems (.ref S); Builtin.List.listUpdate (.ref S) (fun _ => #[]); letGo old.toList.reverse; Builtin.List.listExtendWith (.ref S) (.ref z) .none) _ _ s
  refine wpAny_bind ?_
  unfold Builtin.List.listItems
  refine wpAny_bind (wpAny_seqItems hS rfl (wpAny_pure ?_))
  show wpAny _ A.in1 (updateSeq S (fun _ => #[]) >>= fun _ => letGo (#[] : Array Value).toList.reverse >>= fun _ => Builtin.List.listExtendWith (.ref S) (.ref z) .none) _ _ s
  refine wpAny_bind (wpAny_updateSeq hS rfl ?_)
  have hS₂ := Heap.get?_update_self (Obj.mapSeq (fun _ => (#[] : Array Value))) hS rfl
  have oth : ∀ b o, b ≠ S → s.heap.get? b = some o → (s.heap.update S (Obj.mapSeq (fun _ => (#[] : Array Value)))).get? b = some o :=
    fun b o hb e => (Heap.get?_update_other _ _ (Ne.symm hb)).trans e
  obtain ⟨x0, y0, hTO⟩ := hTO
  refine wpAny_bind (wpAny_letGo ?_)
  refine extend_zip D1 D2 D hn .none (oth _ _ D.Sz.symm hz) (oth _ _ D.STI.symm hTI) ⟨_, _, oth _ _ D.STO.symm hTO⟩ (D1.frame _ _ _ h1 fun b hb o e => oth b o (fun q => D.Sf1 (q ▸ hb)) e) (D2.frame _ _ _ h2 fun b hb o e => oth b o (fun q => D.Sf2 (q ▸ hb)) e) (by show base ≤ (s.heap.update S _).objs.size; rw [Heap.size_update]; exact hb) hS₂ fun h' tk acc' c' kp hS' hm => ?_
  exact hR h' tk acc' c' (fun b o b1 b2 b3 b4 b5 e => kp b o b1 b2 b3 b4 b5 (oth b o b1 e)) hS' hm
theorem call_list_zip {E : Value → Shared → Prop} {Q : Value → Shared → Prop} (D1 : Drw prog w A.in1.in1.in1 i1 f1 n P1 S1) (D2 : Drw prog w A.in1.in1.in1 i2 f2 n P2 S2) (D : ZApart z TI TO i1 i2 s.heap.objs.size (s.heap.objs.size + 1) f1 f2) (hn : n ≤ sizeLine)
    (hz : IsZip s.heap z TI TO .none) (hTI : IsPair s.heap TI (.ref i1) (.ref i2)) (hTO : ∃ a b, IsPair s.heap TO a b) (h1 : S1 0 s.heap) (h2 : S2 0 s.heap)
    (hQ : ∀ h' tk acc c', (∀ b o, b ≠ z → b ≠ TO → b ≠ i1 → b ≠ i2 → s.heap.get? b = some o → h'.get? b = some o) → h'.get? s.heap.objs.size = some { cls := .type "list", dict := none, data := .seq acc c', slots := #[] } → ZMade (s.heap.objs.size + 1) P1 P2 n acc h' → Q (.ref s.heap.objs.size) { s with heap := h', toks := tk }) :
    wpAny (model prog w) A (call (.type "list") [.ref z]) Q E s := by
  refine callType_codes (Q₁ := fun obj s₁ => obj = .ref s.heap.objs.size ∧ s₁ = { s with heap := s.heap.push { cls := .type "list", data := .seq #[] } }) F.called_list (F.typeCall_list_1 _) F.entry_list_init
    (code_list_new _ ⟨rfl, rfl⟩) fun obj s₁ h₁ => ?_
  obtain ⟨rfl, rfl⟩ := h₁
  have hS : (s.heap.push { cls := .type "list", data := .seq #[] }).get? s.heap.objs.size = some { cls := .type "list", data := .seq #[] } := Heap.get?_push_size _ rfl
  have up : ∀ b o, s.heap.get? b = some o → (s.heap.push { cls := .type "list", data := .seq #[] }).get? b = some o := fun b o e => Heap.get?_push_of_some _ e
  obtain ⟨x0, y0, hTO⟩ := hTO
  refine ⟨⟨_, hS, rfl⟩, F.args_list_init_2 _ _, init_zip D1 D2 D hn (up _ _ hz) (up _ _ hTI) ⟨_, _, up _ _ hTO⟩ (D1.frame _ _ _ h1 fun b _ o e => up b o e) (D2.frame _ _ _ h2 fun b _ o e => up b o e) (by show _ ≤ (s.heap.push _).objs.size; rw [Heap.size_push]; exact Nat.le_refl _) hS fun h' tk acc' c' kp hS' hm => ?_⟩
  exact ⟨rfl, hQ h' tk acc' c' (fun b o b2 b3 b4 b5 e => kp b o (Nat.ne_of_lt (Heap.lt_size e)) b2 b3 b4 b5 (up b o e)) hS' hm⟩
end
theorem drw_lst {prog : Program} {w : World} {A : Around} (hh : A.handled = none) {it a : Addr} (ha : a ≠ it) (its : List Value) :
    Drw prog w A it [it, a] its.length (fun i u => its[i]? = some u) (fun i h => h.IsListIter it a i ∧ h.IsList a its.toArray) := by
  refine ⟨?_, ?_, ?_, ?_⟩
  · rintro i h ⟨⟨o, e, _, _⟩, _⟩
    exact ⟨o, e⟩
  · rintro i h h' ⟨st, q⟩ k
    exact ⟨Heap.IsListIter.at st fun o e => k it (by simp) o e, q.at fun o e => k a (by simp) o e⟩
  · rintro i s' Q E hi ⟨st, q⟩ k
    exact wpAny_nextOf_list_item st q (x := its[i]) (by simp [hi]) fun h' st' sb => k _ h' s'.toks (List.getElem?_eq_getElem hi) ⟨st', q.extBut sb.extBut ha⟩ sb
  · rintro i s' Q E hi ⟨st, q⟩ k
    exact wpAny_nextOf_list_end hh st q (by simp; omega) k
abbrev lstAt (its : List Value) (i : Nat) (u : Value) : Prop := its[i]? = some u
theorem meets_tuple_new_zip {z TI TO i1 i2 a b : Addr} {xs ys : List Value} (hl : xs.length = ys.length) (hn : xs.length ≤ 1000) (ha : a ≠ i1) (hb : b ≠ i2) :
    Meets (Builtin.«tuple.__new__» ⟨[.type "tuple", .ref z], []⟩)
      (fun A R s => A.handled = none ∧ (IsZip s.heap z TI TO .none ∧ IsPair s.heap TI (.ref i1) (.ref i2) ∧ (∃ a b, IsPair s.heap TO a b) ∧ s.heap.IsListIter i1 a 0 ∧ s.heap.IsListIter i2 b 0 ∧ s.heap.IsList a xs.toArray ∧ s.heap.IsList b ys.toArray ∧
          ZApart z TI TO i1 i2 s.heap.objs.size (s.heap.objs.size + 1) [i1, a] [i2, b]) ∧
        ∀ (h' : Heap) (tk : Nat) (acc : Array Value), (∀ b o, b ≠ z → b ≠ TO → b ≠ i1 → b ≠ i2 → s.heap.get? b = some o → h'.get? b = some o) → ZMade (s.heap.objs.size + 1) (lstAt xs) (lstAt ys) xs.length acc h' →
          R (.ok (.ret (.ref h'.objs.size))) { s with heap := h'.push { cls := .type "tuple", data := .seq acc }, toks := tk }) :=
  .of_wp fun prog w A R s h => by
    obtain ⟨hh, ⟨hz, hTI, hTO, g1, g2, q1, q2, D⟩, h⟩ := h
    have hsub := sub_tuple_self
    have hinit := init_tuple_lookup
    have hmh := madeHere_tuple
    have hT : s.TypeIs (.ref z) "zip" := ⟨_, hz, rfl⟩
    have D1 := drw_lst (prog := prog) (w := w) (A := A.in1.in1.in1) (show A.in1.in1.in1.handled = none from hh) ha xs
    have D2 := drw_lst (prog := prog) (w := w) (A := A.in1.in1.in1) (show A.in1.in1.in1.handled = none from hh) hb ys
    rw [← hl] at D2
    have hn2 : xs.length ≤ sizeLine := Nat.le_trans hn (by decide)
    wp_walk using wpAny_typeOf hT, collect_zip D1 D2 D hn2 hz hTI hTO ⟨g1, q1⟩ ⟨g2, q2⟩
    intro h' tk acc hk hacc
    show wpAny _ _ (Builtin.Tuple.tupleExact acc.toList.toArray >>= fun v => ret v) _ _ _
    unfold Builtin.Tuple.tupleExact
    refine wpAny_bind (wpAny_newObj_type ?_ (show acc.toList.toArray.size ≤ sizeLine by simp only [Array.toArray_toList]; rw [hacc.size]; exact hn2))
    refine wpAny_pure ⟨_, rfl, ?_⟩
    have e : acc.toList.toArray = acc := by simp
    rw [e]
    exact h h' tk acc hk hacc
section
variable {prog : Program} {w : World} {A : Around} {E : Value → Shared → Prop} {s : Shared}
theorem call_tuple_zip {Q : Value → Shared → Prop} {z TI TO i1 i2 a b : Addr} {xs ys : List Value} (hh : A.handled = none) (hl : xs.length = ys.length) (hn : xs.length ≤ 1000) (ha : a ≠ i1) (hb : b ≠ i2)
    (hz : IsZip s.heap z TI TO .none) (hTI : IsPair s.heap TI (.ref i1) (.ref i2)) (hTO : ∃ a b, IsPair s.heap TO a b) (g1 : s.heap.IsListIter i1 a 0) (g2 : s.heap.IsListIter i2 b 0) (q1 : s.heap.IsList a xs.toArray) (q2 : s.heap.IsList b ys.toArray)
    (D : ZApart z TI TO i1 i2 s.heap.objs.size (s.heap.objs.size + 1) [i1, a] [i2, b])
    (h : ∀ (h' : Heap) (tk : Nat) (acc : Array Value), (∀ b o, b ≠ z → b ≠ TO → b ≠ i1 → b ≠ i2 → s.heap.get? b = some o → h'.get? b = some o) → ZMade (s.heap.objs.size + 1) (lstAt xs) (lstAt ys) xs.length acc h' →
          Q (.ref h'.objs.size) { s with heap := h'.push { cls := .type "tuple", data := .seq acc }, toks := tk }) :
    wpAny (model prog w) A (call (.type "tuple") [.ref z]) Q E s := by
  refine callType_new F.called_tuple (by decide) (F.typeCall_tuple_1 _) (F.newCall_tuple_1 _) (fun obj => F.args_object_init_2 obj _) F.entry_tuple_new
    (meets_tuple_new_zip (TI := TI) (TO := TO) hl hn ha hb) ⟨hh, ⟨hz, hTI, hTO, g1, g2, q1, q2, D⟩, fun h' tk acc hk hacc => ⟨⟨_, Heap.get?_push_size _ rfl, rfl⟩, ?_⟩⟩
  exact h h' tk acc hk hacc
/-- what has been made: pairs of the numbers of both lists -/
theorem zmade_aps {ms ns : List Int} {xs ys : List Value} {base : Addr} {acc : Array Value} {h : Heap} (hx : Vals (ms.map V.int) xs) (hy : Vals (ns.map V.int) ys) (hl : ms.length = ns.length) (m : ZMade base (lstAt xs) (lstAt ys) xs.length acc h) :
    ∃ aps : List (Addr × Int × Int), acc.toList = aps.map (fun p => Value.ref p.1) ∧ aps.map (·.2) = List.zip ms ns ∧ ∀ p ∈ aps, base ≤ p.1 ∧ ∃ t1 t2, h.get? p.1 = some { cls := .type "tuple", data := .seq #[Value.int p.2.1 t1, Value.int p.2.2 t2] } := by
  have lx := hx.length
  have ly := hy.length
  rw [List.length_map] at lx ly
  let adr : Value → Addr := fun v => match v with | .ref q => q | _ => 0
  have hsz := m.size
  have hal : acc.toList.length = ms.length := by simp; omega
  refine ⟨(acc.toList.map adr).zip (List.zip ms ns), ?_, ?_, ?_⟩
  · apply List.ext_getElem?
    intro i
    rw [List.getElem?_map]
    by_cases hi : i < acc.size
    · obtain ⟨q, x, y, e1, _⟩ := m.at' i acc[i] (by simp [hi])
      have g1 : acc.toList[i]? = some acc[i] := by simp [hi]
      have h1 : i < ms.length := by omega
      have h2 : i < ns.length := by omega
      have : ((acc.toList.map adr).zip (List.zip ms ns))[i]? = some (q, ms[i], ns[i]) := by
        rw [List.getElem?_zip_eq_some]
        refine ⟨by rw [List.getElem?_map, g1, e1]; rfl, ?_⟩
        rw [List.getElem?_zip_eq_some]
        exact ⟨List.getElem?_eq_getElem h1, List.getElem?_eq_getElem h2⟩
      rw [this, g1, e1]; rfl
    · rw [List.getElem?_eq_none (by simp; omega), List.getElem?_eq_none (by simp; omega)]; rfl
  · rw [List.map_snd_zip (by simp; omega)]
  · intro p hp
    obtain ⟨i, hi⟩ := List.mem_iff_getElem?.mp hp
    obtain ⟨h1, h2⟩ := List.getElem?_zip_eq_some.mp hi
    obtain ⟨h3, h4⟩ := List.getElem?_zip_eq_some.mp h2
    rw [List.getElem?_map] at h1
    cases g : acc.toList[i]? with
    | none => rw [g] at h1; cases h1
    | some v =>
      rw [g] at h1
      obtain ⟨q, x, y, e1, e2, e3, e4, e5⟩ := m.at' i v (by simpa using g)
      subst e1
      have h1 : q = p.1 := Option.some.inj h1
      subst h1
      obtain ⟨u, hu, ru⟩ := hx.get (i := i) (x := V.int p.2.1) (by rw [List.getElem?_map, h3]; rfl)
      obtain ⟨u', hu', ru'⟩ := hy.get (i := i) (x := V.int p.2.2) (by rw [List.getElem?_map, h4]; rfl)
      rw [show xs[i]? = some x from e3] at hu
      rw [show ys[i]? = some y from e4] at hu'
      cases hu; cases hu'
      obtain ⟨t1, rfl⟩ := ru
      obtain ⟨t2, rfl⟩ := ru'
      exact ⟨e2, t1, t2, e5⟩
end
end L2
namespace Mir
open PySem PySem.Spec L2
variable {X : Cx} {e e2 : Expr} {ta : TA} {p p2 pos pos2 : Pos} {mr : mA} {pins : List (Addr × Obj)} {σ : St} {H1 : Hp} {s1 : Shared}
def sqT (tp : Bool) (xs : List V) : HO := if tp then .tup xs else .lst xs
def tZipL (K : PySem.W.Frag) (tp : Bool) (ta : TA) : TE := fun σ H Q => ta σ H fun vs H1 => ∃ (a b : Addr) (ms ns : List Int), vs = [.ref a, .ref b] ∧ SqL K H1 a (ms.map V.int) ∧ SqL K H1 b (ns.map V.int) ∧ ms.length = ns.length ∧ ms.length ≤ 1000 ∧
  ∀ (H2 : Hp) (aps : List AP) (q : Addr), (∀ b o, H1 b = some o → H2 b = some o) → (∀ p ∈ aps, SqT K H2 p.1 [V.int p.2.1, V.int p.2.2]) → aps.map (·.2) = List.zip ms ns → H2 q = none → Q (.ref q) (upd H2 q (sqT tp (aps.map fun p => V.ref p.1)))
/-- the pairs that were made, and the list or tuple of them, are laid -/
theorem zip_fin {tp : Bool} {ms ns : List Int} {xs ys : List Value} {base L : Addr} {acc : Array Value} {c : Nat} {h' h2 : Heap} {tk : Nat} {Q : VK} (I1 : Inv X pins σ H1 s1) (hx : Vals (ms.map V.int) xs) (hy : Vals (ns.map V.int) ys) (hl : ms.length = ns.length) (hn : ms.length ≤ 1000)
    (m : ZMade base (lstAt xs) (lstAt ys) xs.length acc h') (hb : s1.heap.objs.size ≤ base) (hL : s1.heap.objs.size ≤ L) (keep : ∀ b o, s1.heap.get? b = some o → h2.get? b = some o)
    (kp : ∀ q x y, base ≤ q → IsPair h' q x y → IsPair h2 q x y ∧ q ≠ L)
    (ho : h2.get? L = some { cls := .type (if tp then "tuple" else "list"), data := .seq acc c })
    (q : ∀ (H2 : Hp) (aps : List AP) (q : Addr), (∀ b o, H1 b = some o → H2 b = some o) → (∀ p ∈ aps, SqT X.K H2 p.1 [V.int p.2.1, V.int p.2.2]) → aps.map (·.2) = List.zip ms ns → H2 q = none → Q (.ref q) (upd H2 q (sqT tp (aps.map fun p => V.ref p.1)))) :
    ∃ x H', Inv X pins σ H' { s1 with heap := h2, toks := tk } ∧ RelV x (.ref L) ∧ Q x H' := by
  obtain ⟨aps, ea, ez, hcell0⟩ := zmade_aps hx hy hl m
  have hcell : ∀ p ∈ aps, base ≤ p.1 ∧ p.1 ≠ L ∧ ∃ t1 t2, h2.get? p.1 = some { cls := .type "tuple", data := .seq #[Value.int p.2.1 t1, Value.int p.2.2 t2] } := fun p hp => by
    obtain ⟨h1, t1, t2, h3⟩ := hcell0 p hp
    obtain ⟨h4, h5⟩ := kp _ _ _ h1 h3
    exact ⟨h1, h5, t1, t2, h4⟩
  have fnd : ∀ p ∈ aps, withP H1 aps p.1 = some (.tup [V.int p.2.1, V.int p.2.2]) := fun p hp => by
    unfold withP
    cases hf : aps.find? (fun p' => p'.1 == p.1) with
    | none => exact absurd (List.find?_eq_none.mp hf p hp) (by simp)
    | some p' =>
      have e1 : p'.1 = p.1 := by simpa using List.find?_some hf
      obtain ⟨_, _, t1, t2, g1⟩ := hcell p' (List.mem_of_find?_eq_some hf)
      obtain ⟨_, _, t3, t4, g2⟩ := hcell p hp
      rw [e1, g2] at g1
      simp only [Option.some.injEq, Obj.mk.injEq, Data.seq.injEq, Array.mk.injEq, List.cons.injEq, Value.int.injEq, and_true, true_and] at g1
      simp only
      rw [g1.1.1, g1.2.1]
  have low : ∀ b, b < s1.heap.objs.size → withP H1 aps b = H1 b := fun b hb' => by
    unfold withP
    cases hf : aps.find? (fun p' => p'.1 == b) with
    | none => rfl
    | some p' =>
      have e1 : p'.1 = b := by simpa using List.find?_some hf
      obtain ⟨g, _⟩ := hcell p' (List.mem_of_find?_eq_some hf)
      rw [e1] at g
      exact absurd (Nat.lt_of_lt_of_le hb' hb) (Nat.not_lt.mpr g)
  have cases2 : ∀ b o, withP H1 aps b = some o → (∃ p ∈ aps, p.1 = b ∧ o = .tup [V.int p.2.1, V.int p.2.2]) ∨ H1 b = some o := fun b o h => by
    unfold withP at h
    cases hf : aps.find? (fun p' => p'.1 == b) with
    | none => rw [hf] at h; exact .inr h
    | some p' =>
      rw [hf] at h
      exact .inl ⟨p', List.mem_of_find?_eq_some hf, by simpa using List.find?_some hf, (Option.some.inj h).symm⟩
  have none2 : withP H1 aps L = none := by
    cases hw : withP H1 aps L with
    | none => rfl
    | some o =>
      rcases cases2 _ _ hw with ⟨p, hp, e, _⟩ | h
      · exact absurd e (hcell p hp).2.1
      · exact absurd (I1.hok _ _ h).lt (Nat.not_lt.mpr hL)
  have hlen : aps.length = ms.length := by
    have := congrArg List.length ez
    rw [List.length_map, List.length_zip] at this
    omega
  have hz2 : (aps.map fun p => V.ref p.1).length ≤ sizeLine := by
    rw [List.length_map, hlen]; exact Nat.le_trans hn (by decide)
  have eacc : acc = (aps.map fun p => Value.ref p.1).toArray := by rw [← ea]
  refine ⟨.ref L, upd (withP H1 aps) L (sqT tp (aps.map fun p => V.ref p.1)), I1.laidM (t' := tk) keep (fun b hb' => ?_) (fun b o hb' h => ?_), rfl, q (withP H1 aps) aps L (fun b o h => ?_) (fun p hp => .inl (.inl (fnd p hp))) ez none2⟩
  · rw [upd_ne (Nat.ne_of_lt (Nat.lt_of_lt_of_le hb' hL)), low b hb']
  · by_cases e : b = L
    · subst e
      rw [upd_same] at h
      cases h
      cases tp with
      | false => exact ⟨hz2, (aps.map fun p => Value.ref p.1), c, refs_vals aps, by rw [ho, eacc]; rfl⟩
      | true => exact ⟨hz2, (aps.map fun p => Value.ref p.1), refs_vals aps, ⟨_, ho, rfl, c, by rw [eacc]⟩, _, ho, rfl⟩
    · rw [upd_ne e] at h
      rcases cases2 _ _ h with ⟨p, hp, rfl, rfl⟩ | h
      · obtain ⟨_, _, t1, t2, g⟩ := hcell p hp
        exact ⟨by show 2 ≤ sizeLine; decide, [Value.int p.2.1 t1, Value.int p.2.2 t2], .cons ⟨t1, rfl⟩ (.cons ⟨t2, rfl⟩ .nil), ⟨_, g, rfl, _, rfl⟩, _, g, rfl⟩
      · exact absurd (I1.hok _ _ h).lt (Nat.not_lt.mpr hb')
  · rw [low b (I1.hok _ _ h).lt]; exact h
theorem pe_zip_val (tp : Bool) {x : Str} (hx : x = if tp then "tuple" else "list") (hc : X.calm = true) (hgL : Gl X x) (hmL : X.mg x = none) (hgZ : Gl X "zip") (hmZ : X.mg "zip" = none) (ha : PA X [e, e2] ta)
    (hs2 : starEach [e, e2] X.env = (false, eval e X.env) :: starEach [e2] X.env := by rfl) (hpl : (backTo pos2 (starEach [e2] X.env)).any (·.1) = false := by rfl)
    (hs : starEach [.Call (.Name "zip" p2) [e, e2] [] pos2] X.env = [(false, eval (.Call (.Name "zip" p2) [e, e2] [] pos2) X.env)] := by rfl) :
    PE X (.Call (.Name x p) [.Call (.Name "zip" p2) [e, e2] [] pos2] [] pos) (tZipL X.K tp ta) := by
  intro pins s σ H Q I h
  have main : wpAny (model X.prog X.w) X.A (eval (.Call (.Name "zip" p2) [e, e2] [] pos2) X.env) (fun v s' => wpAny (model X.prog X.w) X.A (call (.type (if tp then "tuple" else "list")) [v]) (fun u s2 => ∃ x H', Inv X pins σ H' s2 ∧ RelV x u ∧ Q x H') X.xe s') X.xe s := by
    refine PyProof.Rows.Call_ (ld_blt I hgZ hmZ boot_zip5 (PyProof.Rows.callWith_type1 (thn (ha pos2 pins s σ H _ I h) fun us s1 ⟨vs, H1, I1, r1, q1⟩ => ?_) hs2 hpl))
    obtain ⟨a, b, ms, ns, ex, qa, qb, hl, hn, q⟩ := q1
    subst ex
    cases r1 with
    | cons r rr =>
      cases rr with
      | cons r' rr =>
        cases rr
        cases r; cases r'
        obtain ⟨xs, rva, pa, _⟩ := I1.list qa
        obtain ⟨ys, rvb, pb, _⟩ := I1.list qb
        have lx := rva.length
        have ly := rvb.length
        rw [List.length_map] at lx ly
        have hla : a < s1.heap.objs.size := pa.lt
        have hlb : b < s1.heap.objs.size := pb.lt
        refine call_zipG (o1 := { cls := .type "list_iterator", data := .fields #[.ref a, .int 0 0] }) (o2 := { cls := .type "list_iterator", data := .fields #[.ref b, .int 0 0] }) (fun prog w A Q E q => wpAny_pyIter_list pa.isList q) (fun prog w A Q E q => wpAny_pyIter_list (pb.isList.at fun o e => Heap.get?_push_of_some _ e) q) rfl rfl fun h' hz hTI hTO g1 g2 hsz hk => ?_
        have g1' : h'.IsListIter s1.heap.objs.size a 0 := ⟨_, g1, rfl, rfl⟩
        have g2' : h'.IsListIter (s1.heap.objs.size + 1) b 0 := ⟨_, g2, rfl, rfl⟩
        have D : ZApart (s1.heap.objs.size + 4) (s1.heap.objs.size + 2) (s1.heap.objs.size + 3) s1.heap.objs.size (s1.heap.objs.size + 1) h'.objs.size (h'.objs.size + 1) [s1.heap.objs.size, a] [s1.heap.objs.size + 1, b] := by
          have n0 : ∀ {m : Nat}, m = s1.heap.objs.size → a < m := fun e => e ▸ hla
          have n1 : ∀ {m : Nat}, m = s1.heap.objs.size → b < m := fun e => e ▸ hlb
          generalize hnn : (s1.heap.objs.size : Nat) = n at hsz hla hlb
          have hA : (a : Nat) < n := hla
          have hB : (b : Nat) < n := hlb
          have hsz' : h'.objs.size = n + 5 := hsz
          generalize (h'.objs.size : Nat) = N at hsz'
          have mem1 : ∀ (x : Nat), x ≠ n → x ≠ a → (x : Addr) ∉ ([n, a] : List Addr) := fun x h1 h2 hm => by
            rcases List.mem_cons.mp hm with z | hm
            · exact h1 z
            · exact h2 (List.mem_singleton.mp hm)
          have mem2 : ∀ (x : Nat), x ≠ n + 1 → x ≠ b → (x : Addr) ∉ ([(n + 1 : Nat), b] : List Addr) := fun x h1 h2 hm => by
            rcases List.mem_cons.mp hm with z | hm
            · exact h1 z
            · exact h2 (List.mem_singleton.mp hm)
          have ne : ∀ {x y : Nat}, x ≠ y → (x : Addr) ≠ (y : Addr) := fun h => h
          subst hsz'
          clear lx ly rva rvb hla hlb
          have hA2 : ∀ k : Nat, ¬ ((n + k : Nat) = (a : Nat)) := fun k e => by have := Nat.lt_of_le_of_lt (Nat.le_add_right n k) (e ▸ hA); exact Nat.lt_irrefl _ this
          have hB2 : ∀ k : Nat, ¬ ((n + k : Nat) = (b : Nat)) := fun k e => by have := Nat.lt_of_le_of_lt (Nat.le_add_right n k) (e ▸ hB); exact Nat.lt_irrefl _ this
          refine ⟨⟨ne (by omega), ne (by omega), ne (by omega), ne (by omega), ne (by omega), ne (by omega), ne (by omega), ne (by omega), ne (by omega), ne (by omega), mem1 _ (by omega) (hA2 4), mem1 _ (by omega) (hA2 3), mem1 _ (by omega) (hA2 1), mem2 _ (by omega) (hB2 4), mem2 _ (by omega) (hB2 3), mem2 _ (by omega) (hB2 0)⟩, ne (by omega), ne (by omega), ne (by omega), ne (by omega), ne (by omega), mem1 _ (by omega) (hA2 5), mem2 _ (by omega) (hB2 5), ?_, ?_, ?_, ?_, ?_⟩
          · show (n + 4 : Nat) < n + 5 + 1; omega
          · show (n + 3 : Nat) < n + 5 + 1; omega
          · show (n : Nat) < n + 5 + 1; omega
          · show (n + 1 : Nat) < n + 5 + 1; omega
          · show (n + 5 : Nat) < n + 5 + 1; omega
        have old : ∀ b' : Addr, b' < s1.heap.objs.size → ∀ k : Nat, b' ≠ s1.heap.objs.size + k := fun b' hb' k => Nat.ne_of_lt (Nat.lt_of_lt_of_le hb' (Nat.le_add_right _ _))
        have hn2 : xs.length ≤ sizeLine := by rw [← lx]; exact Nat.le_trans hn (by decide)
        have le5 : s1.heap.objs.size ≤ h'.objs.size := by rw [hsz]; exact Nat.le_add_right _ _
        cases tp with
        | true =>
          refine call_tuple_zip (xs := xs) (ys := ys) (I1.ok.hd hc) (by omega) (by omega) (Nat.ne_of_lt hla) (old b hlb 1) hz hTI ⟨_, _, hTO⟩ g1' g2' (pa.isList.at fun o e => hk _ _ e) (pb.isList.at fun o e => hk _ _ e) D fun h'' tk acc kp hm => ?_
          have hlt : s1.heap.objs.size ≤ h''.objs.size := Nat.le_of_lt (Nat.lt_of_le_of_lt (Nat.le_add_right _ 2) (Heap.lt_size (kp (s1.heap.objs.size + 2) _ D.zip.TIz D.zip.TITO D.zip.TIi1 D.zip.TIi2 hTI)))
          refine zip_fin (s1 := s1) (tp := true) (L := h''.objs.size) (c := 0) I1 rva rvb hl hn hm (Nat.le_succ_of_le le5) hlt (fun b' o e => Heap.get?_push_of_some _ (kp b' o (old _ (Heap.lt_size e) 4) (old _ (Heap.lt_size e) 3) (old _ (Heap.lt_size e) 0) (old _ (Heap.lt_size e) 1) (hk b' o e))) (fun q x y hq hp => ⟨Heap.get?_push_of_some _ hp, Nat.ne_of_lt (Heap.lt_size hp)⟩) (Heap.get?_push_size _ rfl) q
        | false =>
          have D1 := drw_lst (prog := X.prog) (w := X.w) (A := X.A.in1.in1.in1) (show X.A.in1.in1.in1.handled = none from I1.ok.hd hc) (Nat.ne_of_lt hla) xs
          have D2 := drw_lst (prog := X.prog) (w := X.w) (A := X.A.in1.in1.in1) (show X.A.in1.in1.in1.handled = none from I1.ok.hd hc) (old b hlb 1) ys
          rw [show ys.length = xs.length by omega] at D2
          refine call_list_zip D1 D2 D hn2 hz hTI ⟨_, _, hTO⟩ ⟨g1', pa.isList.at fun o e => hk _ _ e⟩ ⟨g2', pb.isList.at fun o e => hk _ _ e⟩ fun h'' tk acc c' kp hS hm => ?_
          exact zip_fin (s1 := s1) (tp := false) (L := h'.objs.size) (c := c') I1 rva rvb hl hn hm (Nat.le_succ_of_le le5) le5 (fun b' o e => kp b' o (old _ (Heap.lt_size e) 4) (old _ (Heap.lt_size e) 3) (old _ (Heap.lt_size e) 0) (old _ (Heap.lt_size e) 1) (hk b' o e)) (fun q x y hq hp => ⟨hp, Nat.ne_of_gt hq⟩) hS q
  subst hx
  cases tp with
  | true =>
    refine wpAny_Call_Name_kw (ld_blt I hgL hmL bootTuple ?_)
    refine PyProof.Rows.callWith_type1 ?_ hs rfl
    rw [hs]
    show wpAny _ _ (spliced ((false, eval (.Call (.Name "zip" p2) [e, e2] [] pos2) X.env) :: backTo pos [])) _ _ s
    refine Calls.spliced_cons (thn main fun v s' hv => Calls.spliced_nil hv)
  | false =>
    refine wpAny_Call_Name_kw (ld_blt I hgL hmL bootList ?_)
    refine PyProof.Rows.callWith_type1 ?_ hs rfl
    rw [hs]
    show wpAny _ _ (spliced ((false, eval (.Call (.Name "zip" p2) [e, e2] [] pos2) X.env) :: backTo pos [])) _ _ s
    refine Calls.spliced_cons (thn main fun v s' hv => Calls.spliced_nil hv)
def fZipV (tp : Bool) : List D → Mem → Option (D × Mem)
  | [x, y], M => (asList M x).bind fun xs => (asList M y).bind fun ys => (toInts xs).bind fun ms => (toInts ys).bind fun ns =>
    if ms.length = ns.length ∧ ms.length ≤ 1000 then some (if tp then (.tup ((List.zip ms ns).map pD), M) else (.obj M.length, M ++ [.lst ((List.zip ms ns).map pD)])) else none
  | _, _ => none
theorem me_zip_val (tp : Bool) {x : Str} (hx : x = if tp then "tuple" else "list") (hgL : Gl X x) (hgZ : Gl X "zip") (hmL : X.mg x = none) (hmZ : X.mg "zip" = none) (ha : PA X [e, e2] (tMA X.K mr)) (hc : X.calm = true := by rfl)
    (hs2 : starEach [e, e2] X.env = (false, eval e X.env) :: starEach [e2] X.env := by rfl) (hpl : (backTo pos2 (starEach [e2] X.env)).any (·.1) = false := by rfl)
    (hs : starEach [.Call (.Name "zip" p2) [e, e2] [] pos2] X.env = [(false, eval (.Call (.Name "zip" p2) [e, e2] [] pos2) X.env)] := by rfl) :
    PE X (.Call (.Name x p) [.Call (.Name "zip" p2) [e, e2] [] pos2] [] pos) (tM X.K (mCall (fZipV tp) mr)) := PE.imp (pe_zip_val tp hx hc hgL hmL hgZ hmZ ha hs2 hpl hs) fun σ H Q ⟨ι, δ, M, d, M', hs, hm, he, k⟩ => by
  unfold mCall at he
  cases e1 : mr δ M with
  | none => rw [e1] at he; cases he
  | some r =>
    obtain ⟨ds, M1⟩ := r
    rw [e1] at he
    simp only [Option.bind_some] at he
    unfold fZipV at he
    split at he
    · rename_i dx dy
      cases ex : asList M1 dx with
      | none => rw [ex] at he; cases he
      | some xs =>
        cases ey : asList M1 dy with
        | none => rw [ex, ey] at he; cases he
        | some ys =>
          rw [ex, ey] at he
          simp only [Option.bind_some] at he
          cases em : toInts xs with
          | none => rw [em] at he; cases he
          | some ms =>
            cases en : toInts ys with
            | none => rw [em, en] at he; cases he
            | some ns =>
              rw [em, en] at he
              simp only [Option.bind_some] at he
              split at he
              · rename_i hc'
                refine ⟨ι, δ, M, _, _, hs, hm, e1, fun ι1 H1 vs l1 m1 r1 => ?_⟩
                cases r1 with
                | cons ra rt =>
                  cases rt with
                  | cons rb rt =>
                    cases rt
                    obtain ⟨a, va, rfl, ha1, ra1⟩ := asList_rel m1 ex ra
                    obtain ⟨b, vb, rfl, hb1, rb1⟩ := asList_rel m1 ey rb
                    have e3 := toInts_rel ra1 em
                    have e4 := toInts_rel rb1 en
                    subst e3 e4
                    refine ⟨a, b, ms, ns, rfl, ha1, hb1, hc'.1, hc'.2, fun H2 aps q sub sq es hq => ?_⟩
                    have l12 : Le X.K ι1 H1 ι1 H2 := le_sub sub
                    have m2 : RelM X.K ι1 H2 M1 := m1.keep (fun b hb => by obtain ⟨o, eb⟩ := m1.mem hb; rw [eb, sub _ _ eb]) l12.lo
                    have rel := pairs_rel (ι := ι1) (K := X.K) (H := H2) aps sq
                    rw [es] at rel
                    cases tp with
                    | true =>
                      cases he
                      exact got_tup m2 rel (fun ι3 H3 v l3 m3 r3 => k ι3 H3 v ((l1.trans l12).trans l3) m3 r3) q hq
                    | false =>
                      cases he
                      exact got_lst m2 rel (fun ι3 H3 v l3 m3 r3 => k ι3 H3 v ((l1.trans l12).trans l3) m3 r3) q hq
              · cases he
    · cases he
end Mir

set_option Elab.async false
set_option linter.all false
set_option maxRecDepth 100000
set_option maxHeartbeats 4000000
/-! reckoning with mirrors: what they come to -/
namespace Mir
open PySem L2
def Ok {α : Type} (o : Option (α × Mem)) (Q : α → Mem → Prop) : Prop := ∃ a M', o = some (a, M') ∧ Q a M'
theorem Ok.imp {α : Type} {o : Option (α × Mem)} {Q Q' : α → Mem → Prop} (h : Ok o Q) (f : ∀ a M', Q a M' → Q' a M') : Ok o Q' := let ⟨a, M', e, q⟩ := h; ⟨a, M', e, f a M' q⟩
theorem ok_some {α : Type} {a : α} {M : Mem} {Q : α → Mem → Prop} : Ok (some (a, M)) Q ↔ Q a M := ⟨fun ⟨_, _, e, q⟩ => by cases e; exact q, fun q => ⟨a, M, rfl, q⟩⟩
theorem ok_none {α : Type} {Q : α → Mem → Prop} : Ok (none : Option (α × Mem)) Q ↔ False := ⟨fun ⟨_, _, e, _⟩ => (by cases e), fun h => h.elim⟩
theorem ok_bind {α β : Type} {o : Option (α × Mem)} {f : α × Mem → Option (β × Mem)} {Q : β → Mem → Prop} : Ok (o.bind f) Q ↔ Ok o fun a M => Ok (f (a, M)) Q := by
  constructor
  · rintro ⟨b, M', e, q⟩
    cases o with
    | none => cases e
    | some r => exact ⟨r.1, r.2, rfl, b, M', e, q⟩
  · rintro ⟨a, M1, rfl, b, M', e, q⟩
    exact ⟨b, M', e, q⟩
theorem ok_map {α β : Type} {o : Option (α × Mem)} {f : α × Mem → β × Mem} {Q : β → Mem → Prop} : Ok (o.map f) Q ↔ Ok o fun a M => Q (f (a, M)).1 (f (a, M)).2 := by
  constructor
  · rintro ⟨b, M', e, q⟩
    cases o with
    | none => cases e
    | some r =>
      have e : f r = (b, M') := by simpa using e
      exact ⟨r.1, r.2, rfl, by show Q (f r).1 (f r).2; rw [e]; exact q⟩
  · rintro ⟨a, M1, rfl, q⟩
    exact ⟨_, _, rfl, q⟩
/-! slots -/
def at_ (δ : DSt) (i : Nat) : Option D := match δ[i]? with
  | some (some d) => some d
  | _ => none
section
variable {δ : DSt} {M : Mem} {ma mb mc me mo mi mv : mE} {mr : mA} {ta tb : mT} {m1 m2 : mS}
variable {Q : D → Mem → Prop} {QT : Bool → Mem → Prop} {QA : List D → Mem → Prop} {QS : Fl → Mem → Prop}
theorem ok_C {d : D} : Ok (mC d δ M) Q ↔ Q d M := ok_some
theorem ok_bin {f : D → D → Mem → Option (D × Mem)} : Ok (mBin f ma mb δ M) Q ↔ Ok (ma δ M) fun x M1 => Ok (mb δ M1) fun y M2 => Ok (f x y M2) Q := by
  unfold mBin; rw [ok_bind]; simp only [ok_bind]
theorem ok_B {m : mE} : Ok (mB m δ M) QT ↔ Ok (m δ M) fun d M1 => ∃ b, d = .bl b ∧ QT b M1 := by
  unfold mB
  constructor
  · rintro ⟨b, M', e, q⟩
    split at e
    · rename_i e'; cases e; exact ⟨_, _, e', b, rfl, q⟩
    · cases e
  · rintro ⟨d, M1, e, b, rfl, q⟩
    rw [e]; exact ⟨b, M1, rfl, q⟩
theorem ok_Tru {m : mE} : Ok (mTru m δ M) QT ↔ Ok (m δ M) fun d M1 => ∃ b, truB M1 d = some b ∧ QT b M1 := by
  unfold mTru
  rw [ok_bind]
  constructor
  · intro h; refine h.imp fun d M1 h => ?_
    cases e : truB M1 d with
    | none => simp only [e, Option.map_none, ok_none] at h
    | some b => simp only [e, Option.map_some, ok_some] at h; exact ⟨b, rfl, h⟩
  · intro h; refine h.imp fun d M1 ⟨b, e, q⟩ => ?_
    simp only [e, Option.map_some, ok_some]; exact q
theorem ok_And : Ok (mAnd ta tb δ M) QT ↔ Ok (ta δ M) fun b M1 => if b = true then Ok (tb δ M1) QT else QT false M1 := by
  unfold mAnd; rw [ok_bind]
  constructor <;> (intro h; refine h.imp fun b M1 h => ?_; cases b <;> simpa [ok_some] using h)
theorem ok_Or : Ok (mOr ta tb δ M) QT ↔ Ok (ta δ M) fun b M1 => if b = true then QT true M1 else Ok (tb δ M1) QT := by
  unfold mOr; rw [ok_bind]
  constructor <;> (intro h; refine h.imp fun b M1 h => ?_; cases b <;> simpa [ok_some] using h)
theorem ok_Not : Ok (mNot ta δ M) QT ↔ Ok (ta δ M) fun b M1 => QT (!b) M1 := by unfold mNot; rw [ok_map]
theorem ok_Neg : Ok (mNeg ma δ M) Q ↔ Ok (ma δ M) fun d M1 => ∃ i, d = .int i ∧ Q (.int (-i)) M1 := by
  unfold mNeg
  constructor
  · rintro ⟨b, M', e, q⟩
    split at e
    · rename_i e'; cases e; exact ⟨_, _, e', _, rfl, q⟩
    · cases e
  · rintro ⟨d, M1, e, b, rfl, q⟩
    rw [e]; exact ⟨_, M1, rfl, q⟩
theorem ok_AndV : Ok (mAndV ma mb δ M) Q ↔ Ok (ma δ M) fun d M1 => ∃ b, d = .bl b ∧ if b = true then Ok (mb δ M1) Q else Q (.bl false) M1 := by
  unfold mAndV
  constructor
  · rintro ⟨b, M', e, q⟩
    split at e
    · rename_i e'; exact ⟨_, _, e', true, rfl, by simp only [if_true]; exact ⟨b, M', e, q⟩⟩
    · rename_i e'; cases e; exact ⟨_, _, e', false, rfl, by simpa using q⟩
    · cases e
  · rintro ⟨d, M1, e, b, rfl, q⟩
    rw [e]
    cases b with
    | true => simpa using q
    | false => exact ⟨_, _, rfl, by simpa using q⟩
theorem ok_OrV : Ok (mOrV ma mb δ M) Q ↔ Ok (ma δ M) fun d M1 => ∃ b, d = .bl b ∧ if b = true then Q (.bl true) M1 else Ok (mb δ M1) Q := by
  unfold mOrV
  constructor
  · rintro ⟨b, M', e, q⟩
    split at e
    · rename_i e'; cases e; exact ⟨_, _, e', true, rfl, by simpa using q⟩
    · rename_i e'; exact ⟨_, _, e', false, rfl, by simp only [Bool.false_eq_true, if_false]; exact ⟨b, M', e, q⟩⟩
    · cases e
  · rintro ⟨d, M1, e, b, rfl, q⟩
    rw [e]
    cases b with
    | true => exact ⟨_, _, rfl, by simpa using q⟩
    | false => simpa using q
theorem ok_NotV : Ok (mNotV ma δ M) Q ↔ Ok (ma δ M) fun d M1 => ∃ b, d = .bl b ∧ Q (.bl (!b)) M1 := by
  unfold mNotV
  constructor
  · rintro ⟨b, M', e, q⟩
    split at e
    · rename_i e'; cases e; exact ⟨_, _, e', _, rfl, q⟩
    · cases e
  · rintro ⟨d, M1, e, b, rfl, q⟩
    rw [e]; exact ⟨_, M1, rfl, q⟩
theorem ok_IfE {t : mT} : Ok (mIfE t ma mb δ M) Q ↔ Ok (t δ M) fun b M1 => if b = true then Ok (ma δ M1) Q else Ok (mb δ M1) Q := by
  unfold mIfE; rw [ok_bind]
  constructor <;> (intro h; refine h.imp fun b M1 h => ?_; cases b <;> simpa using h)
theorem ok_Nil : Ok (mNil δ M) QA ↔ QA [] M := ok_some
theorem ok_Cons : Ok (mCons me mr δ M) QA ↔ Ok (me δ M) fun x M1 => Ok (mr δ M1) fun xs M2 => QA (x :: xs) M2 := by unfold mCons; rw [ok_bind]; simp only [ok_map]
theorem ok_Tup : Ok (mTup mr δ M) Q ↔ Ok (mr δ M) fun xs M1 => xs.length ≤ sizeLine ∧ Q (.tup xs) M1 := by
  unfold mTup; rw [ok_bind]
  constructor <;> (intro h; refine h.imp fun xs M1 h => ?_)
  · split at h
    · rename_i hz; exact ⟨hz, ok_some.mp h⟩
    · exact (ok_none.mp h).elim
  · rw [if_pos h.1]; exact ok_some.mpr h.2
theorem ok_Lst : Ok (mLst mr δ M) Q ↔ Ok (mr δ M) fun xs M1 => xs.length ≤ sizeLine ∧ Q (.obj M1.length) (M1 ++ [.lst xs]) := by
  unfold mLst; rw [ok_bind]
  constructor <;> (intro h; refine h.imp fun xs M1 h => ?_)
  · split at h
    · rename_i hz; exact ⟨hz, ok_some.mp h⟩
    · exact (ok_none.mp h).elim
  · rw [if_pos h.1]; exact ok_some.mpr h.2
theorem ok_Call {f : List D → Mem → Option (D × Mem)} : Ok (mCall f mr δ M) Q ↔ Ok (mr δ M) fun ds M1 => Ok (f ds M1) Q := by unfold mCall; rw [ok_bind]
theorem ok_Skip : Ok (mSkip δ M) QS ↔ QS (.nx δ) M := ok_some
theorem ok_Seq : Ok (mSeq m1 m2 δ M) QS ↔ Ok (m1 δ M) fun f M1 => match f with | .nx δ' => Ok (m2 δ' M1) QS | .rt d => QS (.rt d) M1 | .bk d => QS (.bk d) M1 | .ct d => QS (.ct d) M1 := by
  unfold mSeq; rw [ok_bind]
  constructor <;> (intro h; refine h.imp fun f M1 h => ?_; cases f <;> simpa [ok_some] using h)
theorem ok_If {t : mT} : Ok (mIf t m1 m2 δ M) QS ↔ Ok (t δ M) fun b M1 => if b = true then Ok (m1 δ M1) QS else Ok (m2 δ M1) QS := by
  unfold mIf; rw [ok_bind]
  constructor <;> (intro h; refine h.imp fun b M1 h => ?_; cases b <;> simpa using h)
theorem ok_Ret : Ok (mRet me δ M) QS ↔ Ok (me δ M) fun d M1 => QS (.rt d) M1 := by unfold mRet; rw [ok_map]
theorem ok_Expr : Ok (mExpr me δ M) QS ↔ Ok (me δ M) fun _ M1 => QS (.nx δ) M1 := by unfold mExpr; rw [ok_map]
theorem ok_Asg {i : Nat} : Ok (mAsg i me δ M) QS ↔ Ok (me δ M) fun d M1 => QS (.nx (δ.set i (some d))) M1 := by
  unfold mAsg mAsgG gOne; rw [ok_bind]; simp only [Option.map_some, ok_some]
theorem ok_AsgG {g : mG} : Ok (mAsgG me g δ M) QS ↔ Ok (me δ M) fun d M1 => ∃ δ', g d δ = some δ' ∧ QS (.nx δ') M1 := by
  unfold mAsgG; rw [ok_bind]
  constructor <;> (intro h; refine h.imp fun d M1 h => ?_)
  · cases e : g d δ with
    | none => simp only [e, Option.map_none, ok_none] at h
    | some δ' => simp only [e, Option.map_some, ok_some] at h; exact ⟨δ', rfl, h⟩
  · obtain ⟨δ', e, q⟩ := h
    simp only [e, Option.map_some, ok_some]; exact q
theorem ok_Set : Ok (mSet mv mo mi δ M) QS ↔ Ok (mv δ M) fun v M1 => Ok (mo δ M1) fun x M2 => Ok (mi δ M2) fun i M3 => ∃ M', setI x i v M3 = some M' ∧ QS (.nx δ) M' := by
  unfold mSet; rw [ok_bind]
  simp only [ok_bind]
  constructor <;> (intro h; refine h.imp fun v M1 h => h.imp fun x M2 h => h.imp fun i M3 h => ?_)
  · cases e : setI x i v M3 with
    | none => simp only [e, Option.map_none, ok_none] at h
    | some M' => simp only [e, Option.map_some, ok_some] at h; exact ⟨M', rfl, h⟩
  · obtain ⟨M', e, q⟩ := h
    simp only [e, Option.map_some, ok_some]; exact q
theorem ok_MethL {f : D → List D → Mem → Option (D × Mem)} : Ok (mMethL f mo mr δ M) Q ↔ Ok (mo δ M) fun x M1 => ListAt M1 x ∧ Ok (mr δ M1) fun ds M2 => Ok (f x ds M2) Q := by
  unfold mMethL; rw [ok_bind]
  constructor <;> (intro h; refine h.imp fun x M1 h => ?_)
  · split at h
    · rename_i hz; exact ⟨hz, ok_bind.mp h⟩
    · exact (ok_none.mp h).elim
  · rw [if_pos h.1]; exact ok_bind.mpr h.2
theorem ok_Get2 : Ok (mGet2 mo ma mb δ M) Q ↔ Ok (mo δ M) fun x M1 => (asDict M1 x).isSome = true ∧ Ok (ma δ M1) fun y M2 => Ok (mb δ M2) fun z M3 => Ok (fGet2 x y z M3) Q := by
  unfold mGet2; rw [ok_bind]
  constructor <;> (intro h; refine h.imp fun x M1 h => ?_)
  · split at h
    · rename_i hz; exact ⟨hz, by simpa only [ok_bind] using h⟩
    · exact (ok_none.mp h).elim
  · rw [if_pos h.1]; simpa only [ok_bind] using h.2
theorem ok_fn {n : Nat} {ms : mS} {ds : List D} : Ok (fnM n ms ds M) Q ↔ Ok (ms (ds.map some ++ List.replicate (n - ds.length) none) M) fun f M1 => match f with | .rt d => Q d M1 | .nx _ => Q .non M1 | _ => False := by
  unfold fnM
  constructor
  · rintro ⟨d, M', e, q⟩
    split at e
    · rename_i e'; cases e; exact ⟨_, _, e', q⟩
    · rename_i e'; cases e; exact ⟨_, _, e', q⟩
    · cases e
  · rintro ⟨f, M1, e, q⟩
    cases f with
    | rt d => rw [e]; exact ⟨_, _, rfl, q⟩
    | nx d => rw [e]; exact ⟨_, _, rfl, q⟩
    | bk d => exact q.elim
    | ct d => exact q.elim
/-! loops -/
theorem ok_For {mi : mI} {g : mG} {body : mS} : Ok (mFor mi g body δ M) QS ↔ Ok (mi δ M) fun it M1 => Ok (loopM it.guard g body it.items δ M1) QS := by unfold mFor; rw [ok_bind]
theorem ok_Lc {mi : mI} {g : mG} {tt : mT} {te : mE} {vs : List Nat} : Ok (mLc mi g tt te vs δ M) Q ↔ Ok (mi δ M) fun it M1 => Ok (lcM it.guard g tt te (wipeD δ vs) it.items M1) fun xs M2 => xs.length ≤ sizeLine ∧ Q (.obj M2.length) (M2 ++ [.lst xs]) := by
  unfold mLc; rw [ok_bind]
  constructor <;> (intro h; refine h.imp fun it M1 h => ?_)
  · refine (ok_bind.mp h).imp fun xs M2 h => ?_
    split at h
    · rename_i hz; exact ⟨hz, ok_some.mp h⟩
    · exact (ok_none.mp h).elim
  · refine ok_bind.mpr (h.imp fun xs M2 h => ?_)
    rw [if_pos h.1]; exact ok_some.mpr h.2
theorem ok_Iter : ∀ {QI : MI → Mem → Prop}, Ok (mIter me δ M) QI ↔ Ok (me δ M) fun d M1 => ∃ it, itAny M1 d = some it ∧ QI it M1 := by
  intro QI
  unfold mIter; rw [ok_bind]
  constructor <;> (intro h; refine h.imp fun d M1 h => ?_)
  · cases e : itAny M1 d with
    | none => simp only [e, Option.map_none, ok_none] at h
    | some it => simp only [e, Option.map_some, ok_some] at h; exact ⟨it, rfl, h⟩
  · obtain ⟨it, e, q⟩ := h
    simp only [e, Option.map_some, ok_some]; exact q
theorem ok_Keys : ∀ {QI : MI → Mem → Prop}, Ok (mKeys me δ M) QI ↔ Ok (me δ M) fun d M1 => ∃ it, itKeys M1 d = some it ∧ QI it M1 := by
  intro QI
  unfold mKeys; rw [ok_bind]
  constructor <;> (intro h; refine h.imp fun d M1 h => ?_)
  · cases e : itKeys M1 d with
    | none => simp only [e, Option.map_none, ok_none] at h
    | some it => simp only [e, Option.map_some, ok_some] at h; exact ⟨it, rfl, h⟩
  · obtain ⟨it, e, q⟩ := h
    simp only [e, Option.map_some, ok_some]; exact q
theorem ok_Rng1 : ∀ {QI : MI → Mem → Prop}, Ok (mRng1 mr δ M) QI ↔ Ok (mr δ M) fun ds M1 => ∃ j, ds = [.int j] ∧ okR j = true ∧ QI (rngI 0 j) M1 := by
  intro QI
  unfold mRng1
  constructor
  · rintro ⟨it, M', e, q⟩
    split at e
    · rename_i j M1 e'; split at e
      · rename_i hj; cases e; exact ⟨_, _, e', j, rfl, hj, q⟩
      · cases e
    · cases e
  · rintro ⟨ds, M1, e, j, rfl, hj, q⟩
    rw [e]
    exact ⟨_, _, by simp only [hj, if_true], q⟩
theorem ok_LockS {j : Nat} {ms : mS} : Ok (mLockS j ms δ M) QS ↔ ∃ p, dicAt j δ M = some p ∧ Ok (ms δ (M.set p.1 (.dro p.2))) fun f M1 => M1[p.1]? = some (.dro p.2) ∧ QS f (M1.set p.1 (.dic p.2)) := by
  unfold mLockS
  constructor
  · rintro ⟨f, M', e, q⟩
    cases e0 : dicAt j δ M with
    | none => rw [e0] at e; cases e
    | some p =>
      rw [e0] at e
      simp only [Option.bind_some] at e
      refine ⟨p, rfl, ?_⟩
      cases e1 : ms δ (M.set p.1 (.dro p.2)) with
      | none => rw [e1] at e; cases e
      | some r =>
        rw [e1] at e
        simp only [Option.bind_some] at e
        split at e
        · rename_i h; cases e; exact ⟨r.1, r.2, rfl, h, q⟩
        · cases e
  · rintro ⟨p, e0, f, M1, e1, h, q⟩
    rw [e0]
    exact ⟨f, _, by simp only [Option.bind_some, e1, h, if_true], q⟩
theorem ok_LockE {j : Nat} : Ok (mLockE j me δ M) Q ↔ ∃ p, dicAt j δ M = some p ∧ Ok (me δ (M.set p.1 (.dro p.2))) fun f M1 => M1[p.1]? = some (.dro p.2) ∧ Q f (M1.set p.1 (.dic p.2)) := by
  unfold mLockE
  constructor
  · rintro ⟨f, M', e, q⟩
    cases e0 : dicAt j δ M with
    | none => rw [e0] at e; cases e
    | some p =>
      rw [e0] at e
      simp only [Option.bind_some] at e
      refine ⟨p, rfl, ?_⟩
      cases e1 : me δ (M.set p.1 (.dro p.2)) with
      | none => rw [e1] at e; cases e
      | some r =>
        rw [e1] at e
        simp only [Option.bind_some] at e
        split at e
        · rename_i h; cases e; exact ⟨r.1, r.2, rfl, h, q⟩
        · cases e
  · rintro ⟨p, e0, f, M1, e1, h, q⟩
    rw [e0]
    exact ⟨f, _, by simp only [Option.bind_some, e1, h, if_true], q⟩
end
/-- a loop by its invariant: I (how many are done, slots, memory); out: the wish -/
theorem ok_loop {gd : List (Nat × MO)} {g : mG} {body : mS} {Q : Fl → Mem → Prop} (I : Nat → DSt → Mem → Prop) : ∀ (l : List D) (n : Nat) (δ : DSt) (M : Mem), I n δ M →
    (∀ i δ M, I i δ M → Guarded M gd) →
    (∀ i d δ M, l[i]? = some d → I (n + i) δ M → ∃ δ1, g d δ = some δ1 ∧ Ok (body δ1 M) fun f M1 => match f with | .nx δ2 => I (n + i + 1) δ2 M1 | .ct δ2 => I (n + i + 1) δ2 M1 | .bk δ2 => Q (.nx δ2) M1 | .rt v => Q (.rt v) M1) →
    (∀ δ M, I (n + l.length) δ M → Q (.nx δ) M) → Ok (loopM gd g body l δ M) Q
  | [], n, δ, M, h0, hg, _, hd => by rw [loopM_nil (hg _ _ _ h0)]; exact ok_some.mpr (hd δ M h0)
  | d :: r, n, δ, M, h0, hg, hs, hd => by
    rw [loopM_cons (hg _ _ _ h0)]
    obtain ⟨δ1, e1, ⟨f, M1, e2, q⟩⟩ := hs 0 d δ M rfl h0
    rw [e1]
    simp only [Option.bind_some, e2]
    have next : ∀ δ2, I (n + 0 + 1) δ2 M1 → Ok (loopM gd g body r δ2 M1) Q := fun δ2 h => by
      refine ok_loop I r (n + 1) δ2 M1 h hg (fun i d' δ' M' e h' => ?_) fun δ' M' h' => hd δ' M' ?_
      · have := hs (i + 1) d' δ' M' (by simpa using e) (by rw [show n + (i + 1) = n + 1 + i by omega]; exact h')
        rw [show n + (i + 1) + 1 = n + 1 + i + 1 by omega] at this
        exact this
      · rw [List.length_cons, show n + (r.length + 1) = n + 1 + r.length by omega]; exact h'
    cases f with
    | nx δ2 => exact next δ2 q
    | ct δ2 => exact next δ2 q
    | bk δ2 => exact ok_some.mpr q
    | rt v => exact ok_some.mpr q
theorem ok_Sl {δ : DSt} {M : Mem} {me : mE} {ml mh : mO} {Q : D → Mem → Prop} : Ok (mSl me ml mh δ M) Q ↔ Ok (me δ M) fun x M1 => Ok (ml δ M1) fun l M2 => Ok (mh δ M2) fun h M3 => Ok (slD x l h M3) Q := by
  unfold mSl; rw [ok_bind]; simp only [ok_bind]
theorem ok_NoP {δ : DSt} {M : Mem} {Q : Option Int → Mem → Prop} : Ok (mNoP δ M) Q ↔ Q none M := ok_some
theorem ok_Part {δ : DSt} {M : Mem} {m : mE} {Q : Option Int → Mem → Prop} : Ok (mPart m δ M) Q ↔ Ok (m δ M) fun d M1 => ∃ i, d = .int i ∧ Q (some i) M1 := by
  unfold mPart
  constructor
  · rintro ⟨b, M', e, q⟩
    split at e
    · rename_i e'; cases e; exact ⟨_, _, e', _, rfl, q⟩
    · cases e
  · rintro ⟨d, M1, e, i, rfl, q⟩
    rw [e]; exact ⟨_, M1, rfl, q⟩
end Mir

set_option Elab.async false
set_option linter.all false
namespace Mir
open PySem L2
section
variable {M : Mem} {Q : D → Mem → Prop} {d : D} {r : DSt} {v : Option D}
theorem ok_v0 : Ok (mVar 0 (some d :: r) M) Q ↔ Q d M := ok_some
theorem st_0 {w : Option D} : List.set (w :: r) 0 v = v :: r := rfl
theorem ok_v1 {o0 : Option D} : Ok (mVar 1 (o0 :: some d :: r) M) Q ↔ Q d M := ok_some
theorem st_1 {o0 : Option D} {w : Option D} : List.set (o0 :: w :: r) 1 v = o0 :: v :: r := rfl
theorem ok_v2 {o0 o1 : Option D} : Ok (mVar 2 (o0 :: o1 :: some d :: r) M) Q ↔ Q d M := ok_some
theorem st_2 {o0 o1 : Option D} {w : Option D} : List.set (o0 :: o1 :: w :: r) 2 v = o0 :: o1 :: v :: r := rfl
theorem ok_v3 {o0 o1 o2 : Option D} : Ok (mVar 3 (o0 :: o1 :: o2 :: some d :: r) M) Q ↔ Q d M := ok_some
theorem st_3 {o0 o1 o2 : Option D} {w : Option D} : List.set (o0 :: o1 :: o2 :: w :: r) 3 v = o0 :: o1 :: o2 :: v :: r := rfl
theorem ok_v4 {o0 o1 o2 o3 : Option D} : Ok (mVar 4 (o0 :: o1 :: o2 :: o3 :: some d :: r) M) Q ↔ Q d M := ok_some
theorem st_4 {o0 o1 o2 o3 : Option D} {w : Option D} : List.set (o0 :: o1 :: o2 :: o3 :: w :: r) 4 v = o0 :: o1 :: o2 :: o3 :: v :: r := rfl
theorem ok_v5 {o0 o1 o2 o3 o4 : Option D} : Ok (mVar 5 (o0 :: o1 :: o2 :: o3 :: o4 :: some d :: r) M) Q ↔ Q d M := ok_some
theorem st_5 {o0 o1 o2 o3 o4 : Option D} {w : Option D} : List.set (o0 :: o1 :: o2 :: o3 :: o4 :: w :: r) 5 v = o0 :: o1 :: o2 :: o3 :: o4 :: v :: r := rfl
theorem ok_v6 {o0 o1 o2 o3 o4 o5 : Option D} : Ok (mVar 6 (o0 :: o1 :: o2 :: o3 :: o4 :: o5 :: some d :: r) M) Q ↔ Q d M := ok_some
theorem st_6 {o0 o1 o2 o3 o4 o5 : Option D} {w : Option D} : List.set (o0 :: o1 :: o2 :: o3 :: o4 :: o5 :: w :: r) 6 v = o0 :: o1 :: o2 :: o3 :: o4 :: o5 :: v :: r := rfl
theorem ok_v7 {o0 o1 o2 o3 o4 o5 o6 : Option D} : Ok (mVar 7 (o0 :: o1 :: o2 :: o3 :: o4 :: o5 :: o6 :: some d :: r) M) Q ↔ Q d M := ok_some
theorem st_7 {o0 o1 o2 o3 o4 o5 o6 : Option D} {w : Option D} : List.set (o0 :: o1 :: o2 :: o3 :: o4 :: o5 :: o6 :: w :: r) 7 v = o0 :: o1 :: o2 :: o3 :: o4 :: o5 :: o6 :: v :: r := rfl
theorem ok_v8 {o0 o1 o2 o3 o4 o5 o6 o7 : Option D} : Ok (mVar 8 (o0 :: o1 :: o2 :: o3 :: o4 :: o5 :: o6 :: o7 :: some d :: r) M) Q ↔ Q d M := ok_some
theorem st_8 {o0 o1 o2 o3 o4 o5 o6 o7 : Option D} {w : Option D} : List.set (o0 :: o1 :: o2 :: o3 :: o4 :: o5 :: o6 :: o7 :: w :: r) 8 v = o0 :: o1 :: o2 :: o3 :: o4 :: o5 :: o6 :: o7 :: v :: r := rfl
theorem ok_v9 {o0 o1 o2 o3 o4 o5 o6 o7 o8 : Option D} : Ok (mVar 9 (o0 :: o1 :: o2 :: o3 :: o4 :: o5 :: o6 :: o7 :: o8 :: some d :: r) M) Q ↔ Q d M := ok_some
theorem st_9 {o0 o1 o2 o3 o4 o5 o6 o7 o8 : Option D} {w : Option D} : List.set (o0 :: o1 :: o2 :: o3 :: o4 :: o5 :: o6 :: o7 :: o8 :: w :: r) 9 v = o0 :: o1 :: o2 :: o3 :: o4 :: o5 :: o6 :: o7 :: o8 :: v :: r := rfl
theorem ok_v10 {o0 o1 o2 o3 o4 o5 o6 o7 o8 o9 : Option D} : Ok (mVar 10 (o0 :: o1 :: o2 :: o3 :: o4 :: o5 :: o6 :: o7 :: o8 :: o9 :: some d :: r) M) Q ↔ Q d M := ok_some
theorem st_10 {o0 o1 o2 o3 o4 o5 o6 o7 o8 o9 : Option D} {w : Option D} : List.set (o0 :: o1 :: o2 :: o3 :: o4 :: o5 :: o6 :: o7 :: o8 :: o9 :: w :: r) 10 v = o0 :: o1 :: o2 :: o3 :: o4 :: o5 :: o6 :: o7 :: o8 :: o9 :: v :: r := rfl
theorem ok_v11 {o0 o1 o2 o3 o4 o5 o6 o7 o8 o9 o10 : Option D} : Ok (mVar 11 (o0 :: o1 :: o2 :: o3 :: o4 :: o5 :: o6 :: o7 :: o8 :: o9 :: o10 :: some d :: r) M) Q ↔ Q d M := ok_some
theorem st_11 {o0 o1 o2 o3 o4 o5 o6 o7 o8 o9 o10 : Option D} {w : Option D} : List.set (o0 :: o1 :: o2 :: o3 :: o4 :: o5 :: o6 :: o7 :: o8 :: o9 :: o10 :: w :: r) 11 v = o0 :: o1 :: o2 :: o3 :: o4 :: o5 :: o6 :: o7 :: o8 :: o9 :: o10 :: v :: r := rfl
theorem ok_v12 {o0 o1 o2 o3 o4 o5 o6 o7 o8 o9 o10 o11 : Option D} : Ok (mVar 12 (o0 :: o1 :: o2 :: o3 :: o4 :: o5 :: o6 :: o7 :: o8 :: o9 :: o10 :: o11 :: some d :: r) M) Q ↔ Q d M := ok_some
theorem st_12 {o0 o1 o2 o3 o4 o5 o6 o7 o8 o9 o10 o11 : Option D} {w : Option D} : List.set (o0 :: o1 :: o2 :: o3 :: o4 :: o5 :: o6 :: o7 :: o8 :: o9 :: o10 :: o11 :: w :: r) 12 v = o0 :: o1 :: o2 :: o3 :: o4 :: o5 :: o6 :: o7 :: o8 :: o9 :: o10 :: o11 :: v :: r := rfl
theorem ok_v13 {o0 o1 o2 o3 o4 o5 o6 o7 o8 o9 o10 o11 o12 : Option D} : Ok (mVar 13 (o0 :: o1 :: o2 :: o3 :: o4 :: o5 :: o6 :: o7 :: o8 :: o9 :: o10 :: o11 :: o12 :: some d :: r) M) Q ↔ Q d M := ok_some
theorem st_13 {o0 o1 o2 o3 o4 o5 o6 o7 o8 o9 o10 o11 o12 : Option D} {w : Option D} : List.set (o0 :: o1 :: o2 :: o3 :: o4 :: o5 :: o6 :: o7 :: o8 :: o9 :: o10 :: o11 :: o12 :: w :: r) 13 v = o0 :: o1 :: o2 :: o3 :: o4 :: o5 :: o6 :: o7 :: o8 :: o9 :: o10 :: o11 :: o12 :: v :: r := rfl
theorem ok_v14 {o0 o1 o2 o3 o4 o5 o6 o7 o8 o9 o10 o11 o12 o13 : Option D} : Ok (mVar 14 (o0 :: o1 :: o2 :: o3 :: o4 :: o5 :: o6 :: o7 :: o8 :: o9 :: o10 :: o11 :: o12 :: o13 :: some d :: r) M) Q ↔ Q d M := ok_some
theorem st_14 {o0 o1 o2 o3 o4 o5 o6 o7 o8 o9 o10 o11 o12 o13 : Option D} {w : Option D} : List.set (o0 :: o1 :: o2 :: o3 :: o4 :: o5 :: o6 :: o7 :: o8 :: o9 :: o10 :: o11 :: o12 :: o13 :: w :: r) 14 v = o0 :: o1 :: o2 :: o3 :: o4 :: o5 :: o6 :: o7 :: o8 :: o9 :: o10 :: o11 :: o12 :: o13 :: v :: r := rfl
theorem ok_v15 {o0 o1 o2 o3 o4 o5 o6 o7 o8 o9 o10 o11 o12 o13 o14 : Option D} : Ok (mVar 15 (o0 :: o1 :: o2 :: o3 :: o4 :: o5 :: o6 :: o7 :: o8 :: o9 :: o10 :: o11 :: o12 :: o13 :: o14 :: some d :: r) M) Q ↔ Q d M := ok_some
theorem st_15 {o0 o1 o2 o3 o4 o5 o6 o7 o8 o9 o10 o11 o12 o13 o14 : Option D} {w : Option D} : List.set (o0 :: o1 :: o2 :: o3 :: o4 :: o5 :: o6 :: o7 :: o8 :: o9 :: o10 :: o11 :: o12 :: o13 :: o14 :: w :: r) 15 v = o0 :: o1 :: o2 :: o3 :: o4 :: o5 :: o6 :: o7 :: o8 :: o9 :: o10 :: o11 :: o12 :: o13 :: o14 :: v :: r := rfl
theorem ok_v16 {o0 o1 o2 o3 o4 o5 o6 o7 o8 o9 o10 o11 o12 o13 o14 o15 : Option D} : Ok (mVar 16 (o0 :: o1 :: o2 :: o3 :: o4 :: o5 :: o6 :: o7 :: o8 :: o9 :: o10 :: o11 :: o12 :: o13 :: o14 :: o15 :: some d :: r) M) Q ↔ Q d M := ok_some
theorem st_16 {o0 o1 o2 o3 o4 o5 o6 o7 o8 o9 o10 o11 o12 o13 o14 o15 : Option D} {w : Option D} : List.set (o0 :: o1 :: o2 :: o3 :: o4 :: o5 :: o6 :: o7 :: o8 :: o9 :: o10 :: o11 :: o12 :: o13 :: o14 :: o15 :: w :: r) 16 v = o0 :: o1 :: o2 :: o3 :: o4 :: o5 :: o6 :: o7 :: o8 :: o9 :: o10 :: o11 :: o12 :: o13 :: o14 :: o15 :: v :: r := rfl
theorem ok_v17 {o0 o1 o2 o3 o4 o5 o6 o7 o8 o9 o10 o11 o12 o13 o14 o15 o16 : Option D} : Ok (mVar 17 (o0 :: o1 :: o2 :: o3 :: o4 :: o5 :: o6 :: o7 :: o8 :: o9 :: o10 :: o11 :: o12 :: o13 :: o14 :: o15 :: o16 :: some d :: r) M) Q ↔ Q d M := ok_some
theorem st_17 {o0 o1 o2 o3 o4 o5 o6 o7 o8 o9 o10 o11 o12 o13 o14 o15 o16 : Option D} {w : Option D} : List.set (o0 :: o1 :: o2 :: o3 :: o4 :: o5 :: o6 :: o7 :: o8 :: o9 :: o10 :: o11 :: o12 :: o13 :: o14 :: o15 :: o16 :: w :: r) 17 v = o0 :: o1 :: o2 :: o3 :: o4 :: o5 :: o6 :: o7 :: o8 :: o9 :: o10 :: o11 :: o12 :: o13 :: o14 :: o15 :: o16 :: v :: r := rfl
theorem ok_v18 {o0 o1 o2 o3 o4 o5 o6 o7 o8 o9 o10 o11 o12 o13 o14 o15 o16 o17 : Option D} : Ok (mVar 18 (o0 :: o1 :: o2 :: o3 :: o4 :: o5 :: o6 :: o7 :: o8 :: o9 :: o10 :: o11 :: o12 :: o13 :: o14 :: o15 :: o16 :: o17 :: some d :: r) M) Q ↔ Q d M := ok_some
theorem st_18 {o0 o1 o2 o3 o4 o5 o6 o7 o8 o9 o10 o11 o12 o13 o14 o15 o16 o17 : Option D} {w : Option D} : List.set (o0 :: o1 :: o2 :: o3 :: o4 :: o5 :: o6 :: o7 :: o8 :: o9 :: o10 :: o11 :: o12 :: o13 :: o14 :: o15 :: o16 :: o17 :: w :: r) 18 v = o0 :: o1 :: o2 :: o3 :: o4 :: o5 :: o6 :: o7 :: o8 :: o9 :: o10 :: o11 :: o12 :: o13 :: o14 :: o15 :: o16 :: o17 :: v :: r := rfl
theorem ok_v19 {o0 o1 o2 o3 o4 o5 o6 o7 o8 o9 o10 o11 o12 o13 o14 o15 o16 o17 o18 : Option D} : Ok (mVar 19 (o0 :: o1 :: o2 :: o3 :: o4 :: o5 :: o6 :: o7 :: o8 :: o9 :: o10 :: o11 :: o12 :: o13 :: o14 :: o15 :: o16 :: o17 :: o18 :: some d :: r) M) Q ↔ Q d M := ok_some
theorem st_19 {o0 o1 o2 o3 o4 o5 o6 o7 o8 o9 o10 o11 o12 o13 o14 o15 o16 o17 o18 : Option D} {w : Option D} : List.set (o0 :: o1 :: o2 :: o3 :: o4 :: o5 :: o6 :: o7 :: o8 :: o9 :: o10 :: o11 :: o12 :: o13 :: o14 :: o15 :: o16 :: o17 :: o18 :: w :: r) 19 v = o0 :: o1 :: o2 :: o3 :: o4 :: o5 :: o6 :: o7 :: o8 :: o9 :: o10 :: o11 :: o12 :: o13 :: o14 :: o15 :: o16 :: o17 :: o18 :: v :: r := rfl
end
section
variable {M : Mem} {Q : D → Mem → Prop} {i j : Int} {QS : Fl → Mem → Prop} {δ : DSt} {me mo mi mv : mE}
theorem ok_AsgM {is : List Nat} : Ok (mAsgG me (gMany is) δ M) QS ↔ Ok (me δ M) fun d M1 => ∃ δ', gMany is d δ = some δ' ∧ QS (.nx δ') M1 := ok_AsgG
theorem ok_add : Ok (addD (.int i) (.int j) M) Q ↔ Q (.int (i + j)) M := ok_some
theorem ok_sub : Ok (subD (.int i) (.int j) M) Q ↔ Q (.int (i - j)) M := by unfold subD intD yesC; simp only [if_true, ok_some]
theorem ok_mul : Ok (mulD (.int i) (.int j) M) Q ↔ mulOk i j = true ∧ Q (.int (i * j)) M := by
  unfold mulD
  by_cases h : mulOk i j = true
  · simp only [h, if_true, ok_some, true_and]
  · dsimp only; rw [if_neg h, ok_none]; exact ⟨fun z => z.elim, fun z => absurd z.1 h⟩
theorem ok_mod : Ok (modD (.int i) (.int j) M) Q ↔ j ≠ 0 ∧ Q (.int (i.fmod j)) M := by
  unfold modD intD modOk
  by_cases h : j = 0
  · simp [h, ok_none]
  · simp [h, ok_some]
theorem ok_fdiv : Ok (fdivD (.int i) (.int j) M) Q ↔ fdivOk i j = true ∧ Q (.int (i.fdiv j)) M := by
  unfold fdivD intD
  by_cases h : fdivOk i j = true
  · simp only [h, if_true, ok_some, true_and]
  · dsimp only; rw [if_neg h, ok_none]; exact ⟨fun z => z.elim, fun z => absurd z.1 h⟩
theorem ok_pow : Ok (powD (.int i) (.int j) M) Q ↔ powOk i j = true ∧ Q (.int (i ^ j.toNat)) M := by
  unfold powD intD
  by_cases h : powOk i j = true
  · simp only [h, if_true, ok_some, true_and]
  · dsimp only; rw [if_neg h, ok_none]; exact ⟨fun z => z.elim, fun z => absurd z.1 h⟩
theorem ok_lt : Ok (ltD (.int i) (.int j) M) Q ↔ Q (.bl (decide (i < j))) M := ok_some
theorem ok_le : Ok (leD (.int i) (.int j) M) Q ↔ Q (.bl (decide (i ≤ j))) M := ok_some
theorem ok_gt : Ok (gtD (.int i) (.int j) M) Q ↔ Q (.bl (decide (j < i))) M := ok_some
theorem ok_ge : Ok (geD (.int i) (.int j) M) Q ↔ Q (.bl (decide (j ≤ i))) M := ok_some
theorem ok_eqI : Ok (eqD (.int i) (.int j) M) Q ↔ Q (.bl (i == j)) M := ok_some
theorem ok_neI : Ok (neD (.int i) (.int j) M) Q ↔ Q (.bl (!(i == j))) M := ok_some
theorem exB {P : Bool → Prop} {b : Bool} : (∃ c, D.bl b = D.bl c ∧ P c) ↔ P b := ⟨fun ⟨c, e, p⟩ => by cases e; exact p, fun p => ⟨b, rfl, p⟩⟩
theorem exI {P : Int → Prop} {b : Int} : (∃ c, D.int b = D.int c ∧ P c) ↔ P b := ⟨fun ⟨c, e, p⟩ => by cases e; exact p, fun p => ⟨b, rfl, p⟩⟩
theorem exL1 {P : Int → Prop} {b : Int} : (∃ c, [D.int b] = [D.int c] ∧ P c) ↔ P b := ⟨fun ⟨c, e, p⟩ => by cases e; exact p, fun p => ⟨b, rfl, p⟩⟩
theorem exS {α : Type} {P : α → Prop} {b : α} : (∃ c, some b = some c ∧ P c) ↔ P b := ⟨fun ⟨c, e, p⟩ => by cases e; exact p, fun p => ⟨b, rfl, p⟩⟩
theorem tru_bl {b : Bool} : truB M (.bl b) = some b := rfl
theorem ok_isi_int {c : String} {b : Bool} (h : isiB "int" c = some b) : Ok (fIsi [.int i, .ty c] M) Q ↔ Q (.bl b) M := by
  unfold fIsi tyD; simp only [Option.bind_some, h, Option.map_some, ok_some]
theorem ok_isi_tup {c : String} {b : Bool} {xs : List D} (h : isiB "tuple" c = some b) : Ok (fIsi [.tup xs, .ty c] M) Q ↔ Q (.bl b) M := by
  unfold fIsi tyD; simp only [Option.bind_some, h, Option.map_some, ok_some]
theorem isi_ii : isiB "int" "int" = some true := by decide +kernel
theorem isi_ib : isiB "int" "bool" = some false := by decide +kernel
theorem isi_tt : isiB "tuple" "tuple" = some true := by decide +kernel
theorem ok_intint : Ok (fIsi [.int i, .ty "int"] M) Q ↔ Q (.bl true) M := ok_isi_int isi_ii
theorem ok_intbool : Ok (fIsi [.int i, .ty "bool"] M) Q ↔ Q (.bl false) M := ok_isi_int isi_ib
theorem ok_tuptup {xs : List D} : Ok (fIsi [.tup xs, .ty "tuple"] M) Q ↔ Q (.bl true) M := ok_isi_tup isi_tt
theorem ok_len_tup {xs : List D} : Ok (fLen [.tup xs] M) Q ↔ Q (.int xs.length) M := ok_some
theorem ok_int_bl {b : Bool} : Ok (fInt [.bl b] M) Q ↔ Q (.int (if b then 1 else 0)) M := ok_some
theorem iteTrue {A B : Prop} : (if true = true then A else B) ↔ A := by simp
theorem iteFalse {A B : Prop} : (if false = true then A else B) ↔ B := by simp
theorem ix_tup0 {x : D} {xs : List D} : Ok (ixD (.tup (x :: xs)) (.int 0) M) Q ↔ Q x M := by
  have : atI (x :: xs) 0 = some x := by unfold atI ixN; simp
  unfold ixD; simp only [this, Option.map_some, ok_some]
theorem ix_tup1 {x y : D} {xs : List D} : Ok (ixD (.tup (x :: y :: xs)) (.int 1) M) Q ↔ Q y M := by
  have : atI (x :: y :: xs) 1 = some y := by
    unfold atI ixN
    rw [if_pos (by decide), if_pos (by simp only [List.length_cons]; omega)]
    rfl
  unfold ixD; simp only [this, Option.map_some, ok_some]
theorem ix_tup2 {x y z : D} {xs : List D} : Ok (ixD (.tup (x :: y :: z :: xs)) (.int 2) M) Q ↔ Q z M := by
  have : atI (x :: y :: z :: xs) 2 = some z := by
    unfold atI ixN
    rw [if_pos (by decide), if_pos (by simp only [List.length_cons]; omega)]
    rfl
  unfold ixD; simp only [this, Option.map_some, ok_some]
/-- an item of a list of the memory, bounds known -/
theorem ok_ixL {n : Nat} {xs : List D} (h : M[n]? = some (.lst xs)) (h0 : 0 ≤ i) (h1 : i < xs.length) {d : D} (hd : xs[i.toNat]? = some d) : Ok (ixD (.obj n) (.int i) M) Q ↔ Q d M := by
  have : atI xs i = some d := by unfold atI ixN; rw [if_pos h0, if_pos h1]; exact hd
  unfold ixD asList; simp only [h, this, Option.map_some, ok_some]
theorem fdiv_small {i j : Int} (h0 : 0 < j) (h1 : j < 1073741824) : fdivOk i j = true := by
  unfold fdivOk
  rw [PyProof.noPylong_small (by omega)]
  simp; omega
theorem mul_left {i j : Int} (h0 : -(2 ^ 64) < i) (h1 : i < 2 ^ 64) : mulOk i j = true := by
  have := (IntMulOk.of_left (b := j) (intBits_le_64 h0 h1))
  unfold IntMulOk at this
  unfold mulOk
  rw [Bool.eq_false_iff.mpr this]; rfl
theorem mul_right {i j : Int} (h0 : -(2 ^ 64) < j) (h1 : j < 2 ^ 64) : mulOk i j = true := by
  have := (IntMulOk.of_right (a := i) (intBits_le_64 h0 h1))
  unfold IntMulOk at this
  unfold mulOk
  rw [Bool.eq_false_iff.mpr this]; rfl
theorem fmod_pos {i j : Int} (h : 0 < j) : i.fmod j = i % j := Int.fmod_eq_emod_of_nonneg i (Int.le_of_lt h)
end
/-! data that are compared -/
inductive Pln : Nat → D → Prop
  | non {n} : Pln n .non
  | bl {n} (b : Bool) : Pln n (.bl b)
  | int {n} (i : Int) : Pln n (.int i)
  | str {n} {x : Str} (h : PyData.strOk x = true) : Pln n (.str x)
  | tup {n} {xs : List D} (h : ∀ x ∈ xs, Pln n x) : Pln (n + 1) (.tup xs)
theorem mapM_some {α β : Type} {f : α → Option β} {P : β → Prop} : ∀ {xs : List α}, (∀ x ∈ xs, ∃ p, f x = some p ∧ P p) → ∃ ps, xs.mapM f = some ps ∧ ∀ p ∈ ps, P p
  | [], _ => ⟨[], rfl, fun _ h => by cases h⟩
  | x :: xs, h => by
    obtain ⟨p, e, q⟩ := h x List.mem_cons_self
    obtain ⟨ps, e', q'⟩ := mapM_some fun y hy => h y (List.mem_cons_of_mem _ hy)
    refine ⟨p :: ps, ?_, fun r hr => ?_⟩
    · rw [List.mapM_cons, e, e']; rfl
    · rcases List.mem_cons.mp hr with rfl | hr
      · exact q
      · exact q' r hr
theorem lay_all : ∀ {ps : List PyData}, (∀ p ∈ ps, p.canLay0 = true) → PyData.canLayAll0 ps = true
  | [], _ => by simp [PyData.canLayAll0]
  | p :: ps, h => by simp [PyData.canLayAll0, h p List.mem_cons_self, lay_all fun q hq => h q (List.mem_cons_of_mem _ hq)]
theorem depth_all {n : Nat} : ∀ {ps : List PyData}, (∀ p ∈ ps, p.depth ≤ n) → PyData.depthAll ps ≤ n
  | [], _ => by simp [PyData.depthAll]
  | p :: ps, h => by
    simp only [PyData.depthAll]
    exact Nat.max_le.mpr ⟨h p List.mem_cons_self, depth_all fun q hq => h q (List.mem_cons_of_mem _ hq)⟩
theorem Pln.pd {M : Mem} : ∀ {n : Nat} {d : D}, Pln n d → ∀ m, n ≤ m → ∃ p, Mir.pd M m d = some p ∧ p.canLay0 = true ∧ p.depth ≤ n
  | _, _, .non, m, _ => ⟨.none, by cases m <;> rfl, by simp [PyData.canLay0], by simp [PyData.depth]⟩
  | _, _, .bl b, m, _ => ⟨.bool b, by cases m <;> rfl, by simp [PyData.canLay0], by simp [PyData.depth]⟩
  | _, _, .int i, m, _ => ⟨.int i, by cases m <;> rfl, by simp [PyData.canLay0], by simp [PyData.depth]⟩
  | _, _, @Pln.str _ x h, m, _ => ⟨.str x, by cases m <;> rfl, by simpa [PyData.canLay0] using h, by simp [PyData.depth]⟩
  | _, _, @Pln.tup n xs h, m, hm => by
    obtain ⟨m', rfl⟩ : ∃ m', m = m' + 1 := ⟨m - 1, by omega⟩
    obtain ⟨ps, e, q⟩ := mapM_some (f := Mir.pd M m') (P := fun p => p.canLay0 = true ∧ p.depth ≤ n) fun x hx => by
      obtain ⟨p, e1, e2, e3⟩ := (h x hx).pd m' (by omega)
      exact ⟨p, e1, e2, e3⟩
    refine ⟨.tuple ps, by simp only [Mir.pd, e, Option.map_some], ?_, ?_⟩
    · simp only [PyData.canLay0]; exact lay_all fun p hp => (q p hp).1
    · simp only [PyData.depth]; exact Nat.succ_le_succ (depth_all fun p hp => (q p hp).2)
theorem pd_ints {M : Mem} {n : Nat} : ∀ ns : List Int, (ns.map D.int).mapM (pd M n) = some (ns.map PyData.int)
  | [] => rfl
  | x :: r => by
    have : pd M n (.int x) = some (.int x) := by cases n <;> rfl
    rw [List.map_cons, List.mapM_cons, this, pd_ints r]; rfl
theorem shaped_ints (ns : List Int) : SeqAt.shaped (.list (ns.map PyData.int)) = true := by
  have h1 : PyData.canLayAll0 (ns.map PyData.int) = true := lay_all fun p hp => by
    obtain ⟨x, _, rfl⟩ := List.mem_map.mp hp; simp [PyData.canLay0]
  have h2 : PyData.depthAll (ns.map PyData.int) ≤ 0 := depth_all fun p hp => by
    obtain ⟨x, _, rfl⟩ := List.mem_map.mp hp; simp [PyData.depth]
  unfold SeqAt.shaped
  simp only [PyData.canLay0, h1, PyData.depth, Bool.true_and]
  exact decide_eq_true (by omega)
theorem eqB_ints {M : Mem} {a b : Nat} {ns ms : List Int} (ha : M[a]? = some (.lst (ns.map .int))) (hb : M[b]? = some (.lst (ms.map .int))) : eqB M (.obj a) (.obj b) = some (PyData.eqvAll (ns.map .int) (ms.map .int)) := by
  unfold eqB
  have e1 : pd M 64 (.obj a) = some (.list (ns.map .int)) := by simp only [pd, asList, ha, Option.bind_some, pd_ints, Option.map_some]
  have e2 : pd M 64 (.obj b) = some (.list (ms.map .int)) := by simp only [pd, asList, hb, Option.bind_some, pd_ints, Option.map_some]
  simp only [e1, e2, Option.bind_some, shaped_ints, and_self, if_true, PyData.eqv]
theorem eqv_nil (ns : List Int) : PyData.eqvAll (ns.map .int) [] = ns.isEmpty := by cases ns <;> simp [PyData.eqvAll]
section
variable {M : Mem} {Q : D → Mem → Prop} {c : Nat} {xs : List D}
theorem listAt (h : M[c]? = some (.lst xs)) : ListAt M (.obj c) := ⟨xs, by simp only [asList, h]⟩
theorem asLst_of (h : M[c]? = some (.lst xs)) : asLst M (.obj c) = some (c, xs) := by simp only [asLst, h]
theorem ok_app {y : D} (h : M[c]? = some (.lst xs)) (hl : xs.length < sizeLine) : Ok (fAppend (.obj c) [y] M) Q ↔ Q .non (M.set c (.lst (xs ++ [y]))) := by
  unfold fAppend
  rw [asLst_of h]
  simp only [Option.bind_some]
  rw [if_pos hl, ok_some]
end
section
variable {M : Mem} {Q : D → Mem → Prop} {δ : DSt}
theorem itAny_lst {n : Nat} {xs : List D} (h : M[n]? = some (.lst xs)) : itAny M (.obj n) = some ⟨xs, [(n, .lst xs)]⟩ := by simp only [itAny, h]
theorem itAny_tup {xs : List D} : itAny M (.tup xs) = some ⟨xs, []⟩ := rfl
theorem ok_DNew : Ok (mDNew δ M) Q ↔ Q (.obj M.length) (M ++ [.dic []]) := ok_some
theorem ok_addT {xs ys : List D} : Ok (addD (.tup xs) (.tup ys) M) Q ↔ xs.length + ys.length ≤ sizeLine ∧ Q (.tup (xs ++ ys)) M := by
  unfold addD
  by_cases h : xs.length + ys.length ≤ sizeLine
  · simp only [h, if_true, ok_some, true_and]
  · dsimp only; rw [if_neg h, ok_none]; exact ⟨fun z => z.elim, fun z => absurd z.1 h⟩
theorem guard_lst {n : Nat} {xs : List D} (h : M[n]? = some (.lst xs)) : Guarded M [(n, .lst xs)] := fun q hq => by cases List.mem_singleton.mp hq; exact h
theorem at_end {mo : MO} : (M ++ [mo])[M.length]? = some mo := by simp
end
end Mir

set_option Elab.async false
set_option linter.all false
set_option maxRecDepth 100000
set_option maxHeartbeats 4000000
/-! dicts of whole numbers as lists of pairs -/
namespace Mir
open PySem L2
abbrev IL := List (Int × Int)
def lk : IL → Int → Option Int
  | [], _ => none
  | (a, b) :: r, k => if a = k then some b else lk r k
def get (L : IL) (k : Int) : Int := (lk L k).getD 0
def put : IL → Int → Int → IL
  | [], k, v => [(k, v)]
  | (a, b) :: r, k, v => if a = k then (a, v) :: r else (a, b) :: put r k v
abbrev keys (L : IL) : List Int := L.map (·.1)
/-- a comprehension without effects -/
theorem lc_pure {gd : List (Nat × MO)} {g : mG} {tt : mT} {te : mE} {δ : DSt} {M : Mem} {α : Type} {inj : α → D} {b : α → Bool} {e : α → D} (hg : Guarded M gd) : ∀ (l : List α),
    (∀ x ∈ l, ∃ δ1, g (inj x) δ = some δ1 ∧ tt δ1 M = some (b x, M) ∧ (b x = true → te δ1 M = some (e x, M))) → lcM gd g tt te δ (l.map inj) M = some ((l.filter b).map e, M)
  | [], _ => lcM_nil hg
  | x :: r, h => by
    obtain ⟨δ1, e1, e2, e3⟩ := h x List.mem_cons_self
    have ih := lc_pure hg r fun y hy => h y (List.mem_cons_of_mem _ hy)
    rw [List.map_cons, lcM_cons hg, e1]
    simp only [Option.bind_some, e2, ih]
    cases hb : b x with
    | true => simp only [if_true, e3 hb, Option.bind_some, ih, Option.map_some, List.filter_cons, hb, List.map_cons]
    | false => simp only [Bool.false_eq_true, if_false, List.filter_cons, hb]
end Mir

set_option Elab.async false
set_option linter.all false
set_option maxRecDepth 100000
set_option maxHeartbeats 4000000
namespace Mir
open PySem PySem.Spec L2
variable {δ : DSt} {M : Mem} {Q : D → Mem → Prop} {me ma : mE} {mr : mA}
theorem ok_Zip {QI : MI → Mem → Prop} : Ok (mZip mr δ M) QI ↔ Ok (mr δ M) fun ds M1 => ∃ x y i1 i2, ds = [x, y] ∧ itAny M1 x = some i1 ∧ itAny M1 y = some i2 ∧ QI ⟨zipD i1.items i2.items, i1.guard ++ i2.guard⟩ M1 := by
  unfold mZip
  rw [ok_bind]
  constructor
  · rintro ⟨ds, M1, e, h⟩
    refine ⟨ds, M1, e, ?_⟩
    dsimp only at h
    split at h
    · rename_i x y
      cases e1 : itAny M1 x with
      | none => rw [e1] at h; exact absurd h (by rw [Option.bind_none, ok_none]; exact id)
      | some i1 =>
        cases e2 : itAny M1 y with
        | none => rw [e1, e2] at h; exact absurd h (by simp only [Option.bind_some, Option.map_none]; rw [ok_none]; exact id)
        | some i2 =>
          rw [e1, e2] at h
          simp only [Option.bind_some, Option.map_some] at h
          exact ⟨x, y, i1, i2, rfl, e1, e2, ok_some.mp h⟩
    · exact absurd h (by rw [ok_none]; exact id)
  · rintro ⟨ds, M1, e, x, y, i1, i2, rfl, e1, e2, q⟩
    refine ⟨[x, y], M1, e, ?_⟩
    dsimp only
    rw [e1, e2]
    exact ok_some.mpr q
theorem ok_IxG {tab : List (Str × Str)} : Ok (mIxG tab me δ M) Q ↔ Ok (me δ M) fun d M1 => ∃ z y, d = .str z ∧ tab.lookup z = some y ∧ Q (.str y) M1 := by
  unfold mIxG
  rw [ok_bind]
  constructor
  · rintro ⟨d, M1, e, h⟩
    refine ⟨d, M1, e, ?_⟩
    dsimp only at h
    split at h
    · rename_i z
      cases e1 : tab.lookup z with
      | none => rw [e1] at h; exact absurd h (by rw [Option.map_none, ok_none]; exact id)
      | some y => rw [e1] at h; exact ⟨z, y, rfl, e1, ok_some.mp h⟩
    · exact absurd h (by rw [ok_none]; exact id)
  · rintro ⟨d, M1, e, z, y, rfl, e1, q⟩
    refine ⟨.str z, M1, e, ?_⟩
    dsimp only
    rw [e1]
    exact ok_some.mpr q
theorem shaped_str {a : Str} (h : PyData.canLay0 (.str a) = true) : SeqAt.shaped (.str a) = true := by
  unfold SeqAt.shaped
  rw [h]
  rfl
theorem eqB_str {a b : Str} (ha : PyData.canLay0 (.str a) = true) (hb : PyData.canLay0 (.str b) = true) : eqB M (.str a) (.str b) = some (a == b) := by
  show (if SeqAt.shaped (.str a) = true ∧ SeqAt.shaped (.str b) = true then some (PyData.eqv (.str a) (.str b)) else none) = _
  rw [if_pos ⟨shaped_str ha, shaped_str hb⟩]
  simp only [PyData.eqv]
theorem ok_eqS {a b : Str} (ha : PyData.canLay0 (.str a) = true) (hb : PyData.canLay0 (.str b) = true) : Ok (eqD (.str a) (.str b) M) Q ↔ Q (.bl (a == b)) M := by
  unfold eqD; rw [eqB_str ha hb]; exact ok_some
theorem ok_neS {a b : Str} (ha : PyData.canLay0 (.str a) = true) (hb : PyData.canLay0 (.str b) = true) : Ok (neD (.str a) (.str b) M) Q ↔ Q (.bl (!(a == b))) M := by
  unfold neD; rw [eqB_str ha hb]; exact ok_some
end Mir

set_option Elab.async false
set_option linter.all false
set_option maxRecDepth 100000
set_option maxHeartbeats 4000000
/-! deeds as data, and what they come to -/
namespace Run
open PySem Mir L2
inductive Op where | plus | minus | times | less | share
inductive Dd where
  | num (n : Int) | op (w : Op) (a b : Nat) | pick (a b c : Nat) | read (a : Nat) (n : Int) | write (a : Nat) (n : Int) (b : Nat) | keep (a : Nat) (s : Int) | fetch (s : Int)
def Op.w : Op → Str
  | .plus => "plus" | .minus => "minus" | .times => "times" | .less => "less" | .share => "share"
def Dd.w : Dd → Str
  | .num _ => "number" | .op o _ _ => o.w | .pick .. => "pick" | .read .. => "read" | .write .. => "write" | .keep .. => "keep" | .fetch .. => "fetch"
def Dd.ps : Dd → List Int
  | .num n => [n] | .op _ a b => [(a : Int), (b : Int)] | .pick a b c => [(a : Int), (b : Int), (c : Int)] | .read a n => [(a : Int), n] | .write a n b => [(a : Int), n, (b : Int)] | .keep a s => [(a : Int), s] | .fetch s => [s]
def Dd.named : Dd → List Nat
  | .num n => [] | .op _ a b => [a, b] | .pick a b c => [a, b, c] | .read a n => [a] | .write a n b => [a, b] | .keep a s => [a] | .fetch s => []
def Dd.has : Dd → Bool
  | .write .. => false | .keep .. => false | _ => true
def Dd.D (d : Dd) : Mir.D := .tup (.str d.w :: d.ps.map .int)
structure RS where
  ws : List Int
  cl : IL
  sh : IL
def RS.v (r : RS) (a : Nat) : Int := r.ws.getD a 0
def opv : Op → Int → Int → Int
  | .plus, x, y => x + y | .minus, x, y => x - y | .times, x, y => x * y | .less, x, y => if x < y then 1 else 0 | .share, x, y => x.fdiv y
def val (d : Dd) (r : RS) : Int := match d with
  | .num n => n | .op w a b => opv w (r.v a) (r.v b) | .pick a b c => if r.v a ≠ 0 then r.v b else r.v c
  | .read a n => Mir.get r.cl (r.v a + n) | .write .. => 0 | .keep .. => 0 | .fetch s => Mir.get r.sh s
def step (d : Dd) (r : RS) : RS := ⟨r.ws ++ [val d r], match d with | .write a n b => put r.cl (r.v a + n) (r.v b) | _ => r.cl, match d with | .keep a s => put r.sh s (r.v a) | _ => r.sh⟩
/-- a deed that may be done -/
structure Good (mk : List Bool) (d : Dd) (r : RS) : Prop where
  nm : ∀ a ∈ d.named, mk[a]? = some true
  lm : mk.length = r.ws.length
  ml : ∀ a b, d = .op .times a b → mulOk (r.v a) (r.v b) = true
  sh : ∀ a b, d = .op .share a b → fdivOk (r.v a) (r.v b) = true
  l1 : r.cl.length ≤ 500
  l2 : r.sh.length ≤ 500
  l3 : r.ws.length ≤ 500
  n1 : (keys r.cl).Nodup
  n2 : (keys r.sh).Nodup
/-- bounds by bits -/
def bd (B : Nat) (v : Int) : Prop := v.natAbs < 2 ^ B
structure Bnd (B : Nat) (r : RS) : Prop where
  w : ∀ v ∈ r.ws, bd B v
  c : ∀ p ∈ r.cl, bd B p.2
  s : ∀ p ∈ r.sh, bd B p.2
theorem bd.mono {B C : Nat} {v : Int} (h : bd B v) (l : B ≤ C) : bd C v := Nat.lt_of_lt_of_le h (Nat.pow_le_pow_right (by decide) l)
theorem Bnd.mono {B C : Nat} {r : RS} (h : Bnd B r) (l : B ≤ C) : Bnd C r := ⟨fun v m => (h.w v m).mono l, fun v m => (h.c v m).mono l, fun v m => (h.s v m).mono l⟩
theorem bd_zero {B : Nat} : bd B 0 := by unfold bd; simp; exact Nat.pos_of_ne_zero (by simp)
theorem Bnd.v {B : Nat} {r : RS} (h : Bnd B r) (a : Nat) : bd B (r.v a) := by
  unfold RS.v
  rw [List.getD_eq_getElem?_getD]
  cases e : r.ws[a]? with
  | none => exact bd_zero
  | some x => exact h.w x (List.mem_of_getElem? e)
end Run

set_option Elab.async false
set_option linter.all false
set_option maxRecDepth 100000
set_option maxHeartbeats 4000000
namespace Mir
open PySem L2
variable {M : Mem} {Q : D → Mem → Prop}
def IfP (b : Bool) (A B : Prop) : Prop := if b = true then A else B
theorem ifp_t {A B : Prop} : IfP true A B = A := by simp [IfP]
theorem ifp_f {A B : Prop} : IfP false A B = B := by simp [IfP]
section
variable {δ : DSt} {ma mb : mE} {ta tb t : mT} {m1 m2 : mS} {QT : Bool → Mem → Prop} {QS : Fl → Mem → Prop}
theorem ok_And' : Ok (mAnd ta tb δ M) QT ↔ Ok (ta δ M) fun b M1 => IfP b (Ok (tb δ M1) QT) (QT false M1) := ok_And
theorem ok_Or' : Ok (mOr ta tb δ M) QT ↔ Ok (ta δ M) fun b M1 => IfP b (QT true M1) (Ok (tb δ M1) QT) := ok_Or
theorem ok_AndV' : Ok (mAndV ma mb δ M) Q ↔ Ok (ma δ M) fun d M1 => ∃ b, d = .bl b ∧ IfP b (Ok (mb δ M1) Q) (Q (.bl false) M1) := ok_AndV
theorem ok_OrV' : Ok (mOrV ma mb δ M) Q ↔ Ok (ma δ M) fun d M1 => ∃ b, d = .bl b ∧ IfP b (Q (.bl true) M1) (Ok (mb δ M1) Q) := ok_OrV
theorem ok_IfE' : Ok (mIfE t ma mb δ M) Q ↔ Ok (t δ M) fun b M1 => IfP b (Ok (ma δ M1) Q) (Ok (mb δ M1) Q) := ok_IfE
theorem ok_If' : Ok (mIf t m1 m2 δ M) QS ↔ Ok (t δ M) fun b M1 => IfP b (Ok (m1 δ M1) QS) (Ok (m2 δ M1) QS) := ok_If
end
theorem ok_eqT {a : Str} (ha : PyData.canLay0 (.str a) = true) : Ok (eqD (.str a) (.str a) M) Q ↔ Q (.bl true) M := by rw [ok_eqS ha ha]; simp
theorem ok_eqF {a b : Str} (ha : PyData.canLay0 (.str a) = true) (hb : PyData.canLay0 (.str b) = true) (h : (a == b) = false) : Ok (eqD (.str a) (.str b) M) Q ↔ Q (.bl false) M := by rw [ok_eqS ha hb, h]
theorem ok_neT {a : Str} (ha : PyData.canLay0 (.str a) = true) : Ok (neD (.str a) (.str a) M) Q ↔ Q (.bl false) M := by rw [ok_neS ha ha]; simp
theorem ok_neF {a b : Str} (ha : PyData.canLay0 (.str a) = true) (hb : PyData.canLay0 (.str b) = true) (h : (a == b) = false) : Ok (neD (.str a) (.str b) M) Q ↔ Q (.bl true) M := by rw [ok_neS ha hb, h]; rfl
theorem at_set {n : Nat} {o o' : MO} (h : M[n]? = some o) : (M.set n o')[n]? = some o' := by rw [List.getElem?_set_self (List.getElem?_eq_some_iff.mp h).1]
end Mir
namespace Run
open PySem Mir L2
/-! what stood there stands -/
structure Pe (M M' : Mem) : Prop where
  len : M.length ≤ M'.length
  old : ∀ i, i < M.length → M'[i]? = M[i]?
theorem Pe.refl {M} : Pe M M := ⟨Nat.le_refl _, fun _ _ => rfl⟩
theorem Pe.trans {M M1 M2} (a : Pe M M1) (b : Pe M1 M2) : Pe M M2 := ⟨Nat.le_trans a.len b.len, fun i h => (b.old i (Nat.lt_of_lt_of_le h a.len)).trans (a.old i h)⟩
theorem Pe.app {M : Mem} {l : Mem} : Pe M (M ++ l) := ⟨by simp, fun i h => List.getElem?_append_left h⟩
theorem Pe.at {M M' : Mem} {i : Nat} {o : MO} (p : Pe M M') (h : M[i]? = some o) : M'[i]? = some o := (p.old i (List.getElem?_eq_some_iff.mp h).1).trans h
/-- what stood there stands, but some -/
structure Fr (S : List Nat) (M M' : Mem) : Prop where
  len : M.length ≤ M'.length
  old : ∀ i, i < M.length → i ∉ S → M'[i]? = M[i]?
theorem Fr.refl {S M} : Fr S M M := ⟨Nat.le_refl _, fun _ _ _ => rfl⟩
theorem Fr.trans {S M M1 M2} (a : Fr S M M1) (b : Fr S M1 M2) : Fr S M M2 := ⟨Nat.le_trans a.len b.len, fun i h n => (b.old i (Nat.lt_of_lt_of_le h a.len) n).trans (a.old i h n)⟩
theorem Fr.at {S M M' i o} (e : Fr S M M') (h : M[i]? = some o) (n : i ∉ S) : M'[i]? = some o := (e.old i (List.getElem?_eq_some_iff.mp h).1 n).trans h
theorem Fr.mono {S T M M'} (a : Fr S M M') (h : ∀ i ∈ S, i ∈ T ∨ M.length ≤ i) : Fr T M M' := ⟨a.len, fun i hi n => a.old i hi fun m => (h i m).elim n fun z => absurd hi (by omega)⟩
theorem Fr.pe {S M M'} (a : Fr S M M') (h : ∀ i ∈ S, M.length ≤ i) : Pe M M' := ⟨a.len, fun i hi => a.old i hi fun m => absurd hi (by have := h i m; omega)⟩
theorem Fr.set {S M n o} (h : n ∈ S) : Fr S M (M.set n o) := ⟨by simp, fun i _ m => by rw [List.getElem?_set_ne (by rintro rfl; exact m h)]⟩
theorem ok_pick {M : Mem} {n : Nat} {xs : List D} {v : Int} {Q : D → Mem → Prop} (h : M[n]? = some (.lst xs)) (h0 : 0 ≤ v) (h1 : v < xs.length) (q : ∀ d ∈ xs, Q d M) : Ok (ixD (.obj n) (.int v) M) Q := by
  have hv : v.toNat < xs.length := by omega
  exact (ok_ixL h h0 h1 (List.getElem?_eq_getElem hv)).mpr (q _ (List.getElem_mem hv))
theorem toInts_map (ns : List Int) : toInts (ns.map D.int) = some ns := by
  induction ns with
  | nil => rfl
  | cons x r ih => simp only [List.map_cons, toInts, ih, Option.map_some]
/-! stores -/
/-! signs -/
end Run

set_option Elab.async false
set_option linter.all false
set_option maxRecDepth 100000
set_option maxHeartbeats 4000000
namespace Mir
open PySem L2
variable {δ : DSt} {M : Mem} {mr : mA}
theorem ok_Enum {QI : MI → Mem → Prop} : Ok (mEnumerate mr δ M) QI ↔ Ok (mr δ M) fun ds M1 => ∃ x, ds = [x] ∧ ∃ i1, itAny M1 x = some i1 ∧ QI ⟨enumD i1.items, i1.guard⟩ M1 := by
  unfold mEnumerate
  rw [ok_bind]
  constructor
  · rintro ⟨ds, M1, e, h⟩
    refine ⟨ds, M1, e, ?_⟩
    dsimp only at h
    split at h
    · rename_i x
      cases e1 : itAny M1 x with
      | none => rw [e1] at h; exact absurd h (by rw [Option.map_none, ok_none]; exact id)
      | some i1 =>
        rw [e1] at h
        simp only [Option.map_some] at h
        exact ⟨x, rfl, i1, e1, ok_some.mp h⟩
    · exact absurd h (by rw [ok_none]; exact id)
  · rintro ⟨ds, M1, e, x, rfl, i1, e1, q⟩
    refine ⟨[x], M1, e, ?_⟩
    dsimp only
    rw [e1]
    exact ok_some.mpr q
theorem gm2 {i j : Nat} {a b : D} : gMany [i, j] (.tup [a, b]) δ = some ((δ.set i (some a)).set j (some b)) := rfl
theorem gm3 {i j k : Nat} {a b c : D} : gMany [i, j, k] (.tup [a, b, c]) δ = some (((δ.set i (some a)).set j (some b)).set k (some c)) := rfl
theorem gm4 {i j k l : Nat} {a b c d : D} : gMany [i, j, k, l] (.tup [a, b, c, d]) δ = some ((((δ.set i (some a)).set j (some b)).set k (some c)).set l (some d)) := rfl
theorem gm5 {i j k l m : Nat} {a b c d e : D} : gMany [i, j, k, l, m] (.tup [a, b, c, d, e]) δ = some (((((δ.set i (some a)).set j (some b)).set k (some c)).set l (some d)).set m (some e)) := rfl
theorem exL {P : D → Prop} {a : D} : (∃ x, [a] = [x] ∧ P x) ↔ P a := ⟨fun ⟨c, e, p⟩ => by cases e; exact p, fun p => ⟨a, rfl, p⟩⟩
theorem seq_cut {m1 m2 : mS} {QS : Fl → Mem → Prop} (h : ∀ K : Fl → Mem → Prop, K = (fun f M1 => match f with | .nx δ' => Ok (m2 δ' M1) QS | .rt d => QS (.rt d) M1 | .bk d => QS (.bk d) M1 | .ct d => QS (.ct d) M1) → Ok (m1 δ M) K) : Ok (mSeq m1 m2 δ M) QS := ok_Seq.mpr (h _ rfl)
theorem seq_mid {m1 m2 : mS} {QS : Fl → Mem → Prop} {Q0 : Fl → Mem → Prop} (h1 : ∀ K : Fl → Mem → Prop, (∀ f M', Q0 f M' → K f M') → Ok (m1 δ M) K) (h2 : ∀ f M', Q0 f M' → match f with | .nx δ' => Ok (m2 δ' M') QS | .rt d => QS (.rt d) M' | .bk d => QS (.bk d) M' | .ct d => QS (.ct d) M') : Ok (mSeq m1 m2 δ M) QS := ok_Seq.mpr ((h1 Q0 fun _ _ h => h).imp h2)
theorem ok_Yes {QT : Bool → Mem → Prop} : Ok (mYes δ M) QT ↔ QT true M := ok_some
end Mir
namespace Run
open PySem Mir L2
def flt (d : Dd) (r : RS) : Bool := match d with | .op .share a b => r.v b == 0 | _ => false
end Run

set_option Elab.async false
set_option linter.all false
set_option maxRecDepth 100000
set_option maxHeartbeats 4000000
namespace Run
open PySem Mir L2
theorem ok_Gen {k0 : Bool} {mi : mI} {g : mG} {tt : mT} {te : mE} {vs : List Nat} {δ : DSt} {M : Mem} {Q : D → Mem → Prop} : Ok (mGen k0 mi g tt te vs δ M) Q ↔ Ok (mi δ M) fun it M1 => Ok (genM k0 it.guard g tt te (wipeD δ vs) it.items M1) fun b M2 => Q (.bl b) M2 := by
  unfold mGen
  rw [ok_bind]
  have key : ∀ (o : Option (Bool × Mem)), Ok (o.map fun q => (D.bl q.1, q.2)) Q ↔ Ok o fun b M2 => Q (.bl b) M2 := fun o => by
    cases o with
    | none =>
      constructor
      · rintro ⟨_, _, h, _⟩; cases h
      · rintro ⟨_, _, h, _⟩; cases h
    | some q => rw [Option.map_some, ok_some, ok_some]
  constructor
  · exact fun h => h.imp fun it M1 h => (key _).mp h
  · exact fun h => h.imp fun it M1 h => (key _).mpr h
/-- any(..) where the elements change nothing -/
theorem gen_any {gd : List (Nat × MO)} {g : mG} {te : mE} {δ : DSt} {M : Mem} {b : D → Bool} (hg : Guarded M gd) : ∀ (l : List D), (∀ x ∈ l, ∃ δ1, g x δ = some δ1 ∧ te δ1 M = some (.bl (b x), M)) → genM false gd g mYes te δ l M = some (l.any b, M)
  | [], _ => genM_nil hg
  | x :: r, h => by
    obtain ⟨δ1, e1, e2⟩ := h x List.mem_cons_self
    rw [genM_cons hg, e1]
    simp only [Option.bind_some, mYes, if_true, e2]
    cases hb : b x with
    | false =>
      simp only [if_true]
      rw [gen_any hg r fun y hy => h y (List.mem_cons_of_mem _ hy), List.any_cons, hb, Bool.false_or]
    | true => simp [hb]
section
variable {δ : DSt} {M : Mem} {me : mE} {ml mh : mO} {Q : D → Mem → Prop}
theorem ok_Sl2 : Ok (mSl2 me ml mh δ M) Q ↔ Ok (me δ M) fun x M1 => Ok (ml δ M1) fun l M2 => Ok (mh δ M2) fun h M3 => Ok (slD2 x l h M3) Q := by
  unfold mSl2; rw [ok_bind]; simp only [ok_bind]
theorem ok_slT {xs : List D} {lo hi : Option Int} : Ok (slD2 (.tup xs) lo hi M) Q ↔ Q (.tup (cutD xs lo hi)) M := ok_some
theorem ok_Rev : Ok (mRev me δ M) Q ↔ Ok (me δ M) fun x M1 => Ok (revD x M1) Q := by
  unfold mRev; rw [ok_bind]
theorem ok_revT {xs : List D} : Ok (revD (.tup xs) M) Q ↔ Q (.tup xs.reverse) M := ok_some
theorem ok_isB {a b : Bool} : Ok (isBD false (.bl a) (.bl b) M) Q ↔ Q (.bl (a == b)) M := ok_some
theorem ok_isnotB {a b : Bool} : Ok (isBD true (.bl a) (.bl b) M) Q ↔ Q (.bl (!(a == b))) M := ok_some
end
end Run

set_option Elab.async false
set_option linter.all false
set_option maxRecDepth 100000
set_option maxHeartbeats 4000000
namespace Lk33
open PySem Mir
noncomputable def m_narrowed : mS := (mSeq (mAsg 2 (mLc (mIter (mVar 1)) (gMany [7, 8]) mYes (mVar 7) [7, 8])) (mSeq (mAsg 3 (mLc (mIter (mVar 1)) (gMany [7, 8]) mYes (mVar 8) [7, 8])) (mSeq (mFor (mIter (mVar 0)) (gMany [4, 5, 6]) (mSet (mCall fMax2 (mCons (mBin ixD (mVar 2) (mVar 5)) (mCons (mBin addD (mBin ixD (mVar 2) (mVar 4)) (mVar 6)) mNil))) (mVar 2) (mVar 5))) (mSeq (mFor (mIter (mRev (mVar 0))) (gMany [4, 5, 6]) (mSet (mCall fMin2 (mCons (mBin ixD (mVar 3) (mVar 4)) (mCons (mBin subD (mBin ixD (mVar 3) (mVar 5)) (mVar 6)) mNil))) (mVar 3) (mVar 4))) (mSeq (mIf (mTru (mGen false (mZip (mCons (mVar 2) (mCons (mVar 3) mNil))) (gMany [7, 8]) mYes (mBin gtD (mVar 7) (mVar 8)) [7, 8])) (mRet (mC .non)) mSkip) (mRet (mCall (fZipV true) (mCons (mVar 2) (mCons (mVar 3) mNil)))))))))
noncomputable def f_narrowed : List D → Mem → Option (D × Mem) := fnM 9 m_narrowed
noncomputable def m__law_deck : mS := (mSeq (mAsg 1 (mCall fList (mCons (mSl (mVar 0) mNoP (mPart (mC (.int 63)))) mNil))) (mRet (mLst (mCons (mRev (mVar 1)) (mCons (mBin addD (mBin modD (mCall fSum (mCons (mVar 1) mNil)) (mC (.int 2147483629))) (mCall fLen (mCons (mVar 1) mNil))) (mCons (mC (.int 0)) mNil))))))
noncomputable def f__law_deck : List D → Mem → Option (D × Mem) := fnM 2 m__law_deck
noncomputable def m__law_take : mS := (mSeq (mSet (mBin addD (mBin ixD (mVar 0) (mC (.int 2))) (mC (.int 1))) (mVar 0) (mC (.int 2))) (mSeq (mAsg 2 (mBin ixD (mVar 0) (mC (.int 1)))) (mSeq (mIf (mB (mBin neD (mBin ixD (mVar 0) (mC (.int 0))) (mLst mNil))) (mSeq (mAsg 2 (mMethL fPop (mBin ixD (mVar 0) (mC (.int 0))) mNil)) (mIf (mB (mBin geD (mVar 2) (mBin powD (mC (.int 10)) (mC (.int 18))))) (mSeq (mExpr (mMethL fAppend (mBin ixD (mVar 0) (mC (.int 0))) (mCons (mBin fdivD (mVar 2) (mVar 1)) mNil))) (mRet (mBin modD (mVar 2) (mVar 1)))) mSkip)) mSkip) (mSeq (mAsg 2 (mBin modD (mBin addD (mBin addD (mBin mulD (mBin modD (mVar 2) (mC (.int 2147483647))) (mC (.int 48271))) (mBin mulD (mC (.int 69621)) (mBin ixD (mVar 0) (mC (.int 2))))) (mC (.int 7919))) (mC (.int 2147483629)))) (mSeq (mAsg 2 (mBin modD (mBin mulD (mVar 2) (mVar 2)) (mC (.int 2147483587)))) (mRet (mBin modD (mBin fdivD (mBin modD (mBin mulD (mVar 2) (mBin addD (mVar 2) (mC (.int 69621)))) (mC (.int 2147483563))) (mC (.int 8))) (mVar 1))))))))
noncomputable def f__law_take : List D → Mem → Option (D × Mem) := fnM 3 m__law_take
noncomputable def m__law_whole : mS := (mRet (mAndV (mCall fIsi (mCons (mVar 0) (mCons (mC (.ty "int")) mNil))) (mNotV (mCall fIsi (mCons (mVar 0) (mCons (mC (.ty "bool")) mNil))))))
noncomputable def f__law_whole : List D → Mem → Option (D × Mem) := fnM 1 m__law_whole
noncomputable def m__law_narrowed : mS := (mSeq (mAsg 2 (mLc (mIter (mVar 1)) (gOne 8) mYes (mBin ixD (mVar 8) (mC (.int 0))) [8])) (mSeq (mAsg 3 (mLc (mIter (mVar 1)) (gOne 8) mYes (mBin ixD (mVar 8) (mC (.int 1))) [8])) (mSeq (mFor (mRng1 (mCons (mCall fLen (mCons (mVar 1) mNil)) mNil)) (gOne 4) (mFor (mIter (mVar 0)) (gMany [5, 6, 7]) (mSeq (mSet (mCall fMax2 (mCons (mBin ixD (mVar 2) (mVar 6)) (mCons (mBin addD (mBin ixD (mVar 2) (mVar 5)) (mVar 7)) mNil))) (mVar 2) (mVar 6)) (mSet (mCall fMin2 (mCons (mBin ixD (mVar 3) (mVar 5)) (mCons (mBin subD (mBin ixD (mVar 3) (mVar 6)) (mVar 7)) mNil))) (mVar 3) (mVar 5))))) (mRet (mCall (fZipV false) (mCons (mVar 2) (mCons (mVar 3) mNil)))))))
noncomputable def f__law_narrowed : List D → Mem → Option (D × Mem) := fnM 9 m__law_narrowed
noncomputable def m__law_is_empty : mS := (mRet (mBin neD (mLc (mIter (mVar 0)) (gOne 1) (mB (mBin gtD (mBin ixD (mVar 1) (mC (.int 0))) (mBin ixD (mVar 1) (mC (.int 1))))) (mVar 1) [1]) (mLst mNil)))
noncomputable def f__law_is_empty : List D → Mem → Option (D × Mem) := fnM 2 m__law_is_empty
noncomputable def m__law_drawn : mS := (mSeq (mAsg 1 (mCall fInt (mCons (mBin eqD (mCall f__law_take (mCons (mVar 0) (mCons (mC (.int 8)) mNil))) (mC (.int 5))) mNil))) (mSeq (mAsg 2 (mBin ixD (mLst (mCons (mBin addD (mC (.int 1)) (mCall f__law_take (mCons (mVar 0) (mCons (mC (.int 8)) mNil)))) (mCons (mC (.int 24)) mNil))) (mVar 1))) (mSeq (mAsg 3 (mBin addD (mC (.int 1)) (mCall f__law_take (mCons (mVar 0) (mCons (mC (.int 5)) mNil))))) (mSeq (mAsg 4 (mLst mNil)) (mSeq (mFor (mRng1 (mCons (mVar 2) mNil)) (gOne 5) (mFor (mRng2 (mCons (mBin addD (mVar 5) (mC (.int 1))) (mCons (mVar 2) mNil))) (gOne 6) (mIf (mB (mBin eqD (mCall f__law_take (mCons (mVar 0) (mCons (mVar 3) mNil))) (mC (.int 0)))) (mExpr (mMethL fAppend (mVar 4) (mCons (mTup (mCons (mVar 5) (mCons (mVar 6) (mCons (mCall f__law_take (mCons (mVar 0) (mCons (mC (.int 7)) mNil))) mNil)))) mNil))) mSkip))) (mSeq (mAsg 7 (mLst mNil)) (mSeq (mFor (mRng1 (mCons (mVar 2) mNil)) (gOne 8) (mSeq (mAsg 9 (mBin ixD (mLst (mCons (mC (.int 0)) (mCons (mC (.int 0)) (mCons (mBin subD (mCall f__law_take (mCons (mVar 0) (mCons (mC (.int 12)) mNil))) (mC (.int 5))) mNil)))) (mCall f__law_take (mCons (mVar 0) (mCons (mC (.int 3)) mNil))))) (mSeq (mAsg 10 (mLst (mCons (mBin subD (mBin addD (mVar 9) (mCall f__law_take (mCons (mVar 0) (mCons (mC (.int 16)) mNil)))) (mC (.int 1))) (mCons (mBin subD (mBin ixD (mLst (mCons (mC (.int 40)) (mCons (mC (.int 400)) mNil))) (mVar 1)) (mCall f__law_take (mCons (mVar 0) (mCons (mC (.int 30)) mNil)))) mNil)))) (mExpr (mMethL fAppend (mVar 7) (mCons (mTup (mCons (mVar 9) (mCons (mBin ixD (mVar 10) (mCall fInt (mCons (mBin gtD (mCall f__law_take (mCons (mVar 0) (mCons (mBin ixD (mLst (mCons (mC (.int 2)) (mCons (mC (.int 30)) mNil))) (mVar 1)) mNil))) (mC (.int 0))) mNil))) mNil))) mNil)))))) (mRet (mTup (mCons (mCall fTuple (mCons (mVar 4) mNil)) (mCons (mCall fTuple (mCons (mVar 7) mNil)) mNil)))))))))))
noncomputable def f__law_drawn : List D → Mem → Option (D × Mem) := fnM 11 m__law_drawn
noncomputable def m__law_is_told : mS := (mSeq (mIf (mOr (mNot (mTru (mCall fIsi (mCons (mVar 0) (mCons (mC (.ty "tuple")) mNil))))) (mB (mBin neD (mCall fList (mCons (mVar 0) mNil)) (mVar 1)))) (mRet (mC (.bl false))) mSkip) (mSeq (mFor (mIter (mVar 0)) (gOne 2) (mIf (mOr (mNot (mTru (mCall fIsi (mCons (mVar 2) (mCons (mC (.ty "tuple")) mNil))))) (mOr (mB (mBin neD (mCall fLen (mCons (mVar 2) mNil)) (mC (.int 2)))) (mOr (mNot (mTru (mCall f__law_whole (mCons (mBin ixD (mVar 2) (mC (.int 0))) mNil)))) (mNot (mTru (mCall f__law_whole (mCons (mBin ixD (mVar 2) (mC (.int 1))) mNil))))))) (mRet (mC (.bl false))) mSkip)) (mRet (mC (.bl true)))))
noncomputable def f__law_is_told : List D → Mem → Option (D × Mem) := fnM 3 m__law_is_told
noncomputable def m_law : mS := (mSeq (mAsg 1 (mCall f__law_deck (mCons (mVar 0) mNil))) (mSeq (mFor (mRng1 (mCons (mC (.int 3)) mNil)) (gOne 2) (mSeq (mAsgG (mCall f__law_drawn (mCons (mVar 1) mNil)) (gMany [3, 4])) (mSeq (mAsg 5 (mCall f__law_narrowed (mCons (mVar 3) (mCons (mVar 4) mNil)))) (mSeq (mAsg 6 (mCall f_narrowed (mCons (mVar 3) (mCons (mVar 4) mNil)))) (mIf (mTru (mCall f__law_is_empty (mCons (mVar 5) mNil))) (mIf (mB (mBin (isND true) (mVar 6) (mC .non))) (mRet (mC (.bl false))) mSkip) (mSeq (mIf (mOr (mNot (mTru (mCall f__law_is_told (mCons (mVar 6) (mCons (mVar 5) mNil))))) (mNot (mTru (mCall f__law_is_told (mCons (mCall f_narrowed (mCons (mVar 3) (mCons (mVar 6) mNil))) (mCons (mVar 5) mNil)))))) (mRet (mC (.bl false))) mSkip) (mFor (mIter (mVar 3)) (gMany [7, 8, 9]) (mIf (mOr (mB (mBin ltD (mBin ixD (mBin ixD (mVar 6) (mVar 8)) (mC (.int 0))) (mBin addD (mBin ixD (mBin ixD (mVar 6) (mVar 7)) (mC (.int 0))) (mVar 9)))) (mB (mBin ltD (mBin ixD (mBin ixD (mVar 6) (mVar 8)) (mC (.int 1))) (mBin addD (mBin ixD (mBin ixD (mVar 6) (mVar 7)) (mC (.int 1))) (mVar 9))))) (mRet (mC (.bl false))) mSkip)))))))) (mRet (mBin eqD (mCall f_narrowed (mCons (mTup mNil) (mCons (mTup mNil) mNil))) (mTup mNil)))))
noncomputable def f_law : List D → Mem → Option (D × Mem) := fnM 10 m_law
end Lk33

set_option Elab.async false
set_option linter.all false
set_option maxRecDepth 100000
set_option maxHeartbeats 4000000
namespace Lk33
open PySem Mir L2 Run
local macro_rules | `(tactic| walk_at "ok") => `(tactic| (try simp only [ok_Zip, ok_IxG, ok_Enum, ok_Yes, ok_Gen, ok_Sl2, ok_slT, ok_Rev, ok_revT, ok_isB, ok_isnotB, wipeD, gOne, ok_Seq, ok_Sl, ok_NoP, ok_Part, ok_DNew, ok_addT, ok_bin, ok_C, ok_B, ok_Tru, ok_And, ok_Or, ok_Not, ok_Neg, ok_AndV, ok_OrV, ok_NotV, ok_IfE, ok_Nil, ok_Cons, ok_Tup, ok_Lst, ok_Call, ok_Skip, ok_If, ok_Ret, ok_Expr, ok_Asg, ok_AsgM, ok_Set, ok_MethL, ok_Get2, ok_For, ok_Lc, ok_Iter, ok_Keys, ok_Rng1, ok_LockS, ok_LockE, ok_some, ok_add, ok_sub, ok_mul, ok_mod, ok_fdiv, ok_pow, ok_lt, ok_le, ok_gt, ok_ge, ok_eqI, ok_neI, exB, exI, exL1, exS, tru_bl, ok_intint, ok_intbool, ok_tuptup, ok_len_tup, ok_int_bl, iteTrue, iteFalse, ix_tup0, ix_tup1, ix_tup2, Bool.not_true, Bool.not_false, if_true, if_false, Bool.false_eq_true, ne_eq, not_false_eq_true, true_and, and_true, ok_v0, ok_v1, ok_v2, ok_v3, ok_v4, ok_v5, ok_v6, ok_v7, ok_v8, ok_v9, ok_v10, ok_v11, ok_v12, ok_v13, ok_v14, ok_v15, ok_v16, ok_v17, ok_v18, ok_v19, st_0, st_1, st_2, st_3, st_4, st_5, st_6, st_7, st_8, st_9, st_10, st_11, st_12, st_13, st_14, st_15, st_16, st_17, st_18, st_19, List.map_cons, List.map_nil, List.length_cons, List.length_nil, List.cons_append, List.nil_append, List.replicate_succ, List.replicate_zero, List.replicate, Nat.reduceAdd, Nat.reduceSub, Nat.zero_add]))
local macro_rules | `(tactic| walk_at "okw") => `(tactic| (try simp (disch := decide +kernel) only [↓gm2, ↓gm3, ↓gm4, ↓gm5, ↓exL, itAny_tup, setAll, ↓ok_eqT, ↓ok_eqF, ↓ok_neT, ↓ok_neF, ↓ifp_t, ↓ifp_f, ↓ok_Zip, ↓ok_IxG, ↓ok_Enum, ↓ok_Yes, ↓ok_Gen, ↓ok_Sl2, ↓ok_slT, ↓ok_Rev, ↓ok_revT, ↓ok_isB, ↓ok_isnotB, wipeD, gOne, ↓ok_Seq, ↓ok_Sl, ↓ok_NoP, ↓ok_Part, ↓ok_DNew, ↓ok_addT, ↓ok_bin, ↓ok_C, ↓ok_B, ↓ok_Tru, ↓ok_And', ↓ok_Or', ↓ok_Not, ↓ok_Neg, ↓ok_AndV', ↓ok_OrV', ↓ok_NotV, ↓ok_IfE', ↓ok_Nil, ↓ok_Cons, ↓ok_Tup, ↓ok_Lst, ↓ok_Call, ↓ok_Skip, ↓ok_If', ↓ok_Ret, ↓ok_Expr, ↓ok_Asg, ↓ok_AsgM, ↓ok_Set, ↓ok_MethL, ↓ok_Get2, ↓ok_For, ↓ok_Lc, ↓ok_Iter, ↓ok_Keys, ↓ok_Rng1, ↓ok_LockS, ↓ok_LockE, ↓ok_some, ↓ok_add, ↓ok_sub, ↓ok_mul, ↓ok_mod, ↓ok_fdiv, ↓ok_pow, ↓ok_lt, ↓ok_le, ↓ok_gt, ↓ok_ge, ↓ok_eqI, ↓ok_neI, ↓exB, ↓exI, ↓exL1, ↓exS, ↓tru_bl, ↓ok_intint, ↓ok_intbool, ↓ok_tuptup, ↓ok_len_tup, ↓ok_int_bl, ↓iteTrue, ↓iteFalse, ↓ix_tup0, ↓ix_tup1, ↓ix_tup2, Bool.not_true, Bool.not_false, if_true, if_false, Bool.false_eq_true, ne_eq, not_false_eq_true, true_and, and_true, ↓ok_v0, ↓ok_v1, ↓ok_v2, ↓ok_v3, ↓ok_v4, ↓ok_v5, ↓ok_v6, ↓ok_v7, ↓ok_v8, ↓ok_v9, ↓ok_v10, ↓ok_v11, ↓ok_v12, ↓ok_v13, ↓ok_v14, ↓ok_v15, ↓ok_v16, ↓ok_v17, ↓ok_v18, ↓ok_v19, st_0, st_1, st_2, st_3, st_4, st_5, st_6, st_7, st_8, st_9, st_10, st_11, st_12, st_13, st_14, st_15, st_16, st_17, st_18, st_19, List.map_cons, List.map_nil, List.length_cons, List.length_nil, List.cons_append, List.nil_append, List.replicate_succ, List.replicate_zero, List.replicate, Nat.reduceAdd, Nat.reduceSub, Nat.zero_add]))
local macro_rules | `(tactic| walk_at "slots") => `(tactic| (simp only [List.map_cons, List.map_nil, List.length_cons, List.length_nil, Nat.reduceAdd, Nat.reduceSub, List.replicate, List.cons_append, List.nil_append]))
section
/-! the deck of k28 to k33 -/
structure Well (M : Mem) (k c : Nat) : Prop where
  ex : ∃ (cells : List Int) (t r : Int), M[k]? = some (.lst [.obj c, .int r, .int t]) ∧ M[c]? = some (.lst (cells.map .int)) ∧ cells.length ≤ 63 ∧ k ≠ c
structure Ext (k c : Nat) (M M' : Mem) : Prop where
  len : M.length ≤ M'.length
  old : ∀ i, i < M.length → i ≠ k → i ≠ c → M'[i]? = M[i]?
theorem Ext.refl {k c M} : Ext k c M M := ⟨Nat.le_refl _, fun _ _ _ _ => rfl⟩
theorem Ext.trans {k c M M1 M2} (a : Ext k c M M1) (b : Ext k c M1 M2) : Ext k c M M2 := ⟨Nat.le_trans a.len b.len, fun i h1 h2 h3 => (b.old i (Nat.lt_of_lt_of_le h1 a.len) h2 h3).trans (a.old i h1 h2 h3)⟩
theorem Ext.at {k c M M' i o} (e : Ext k c M M') (h : M[i]? = some o) (h1 : i ≠ k) (h2 : i ≠ c) : M'[i]? = some o := (e.old i (List.getElem?_eq_some_iff.mp h).1 h1 h2).trans h
theorem _root_.Run.Pe.ext {k c M M'} (p : Pe M M') : Ext k c M M' := ⟨p.len, fun i h _ _ => p.old i h⟩
theorem Well.pe {M M' : Mem} {k c : Nat} (W : Well M k c) (p : Pe M M') : Well M' k c := by
  obtain ⟨cells, t, r, h1, h2, h3, h4⟩ := W.ex
  exact ⟨cells, t, r, p.at h1, p.at h2, h3, h4⟩
theorem Well.lt {M : Mem} {k c : Nat} (W : Well M k c) : k < M.length ∧ c < M.length := by
  obtain ⟨cells, t, r, h1, h2, h3, h4⟩ := W.ex
  exact ⟨(List.getElem?_eq_some_iff.mp h1).1, (List.getElem?_eq_some_iff.mp h2).1⟩
theorem Well.set {M : Mem} {k c n : Nat} {o : MO} (W : Well M k c) (h1 : n ≠ k) (h2 : n ≠ c) : Well (M.set n o) k c := by
  obtain ⟨cells, t, r, a1, a2, a3, a4⟩ := W.ex
  exact ⟨cells, t, r, by rw [List.getElem?_set_ne h1]; exact a1, by rw [List.getElem?_set_ne h2]; exact a2, a3, a4⟩
theorem ext_high {k c : Nat} {M M' : Mem} {n : Nat} {o : MO} (e : Ext k c M M') (h : M.length ≤ n) : Ext k c M (M'.set n o) :=
  ⟨by rw [List.length_set]; exact e.len, fun i hi h1 h2 => by rw [List.getElem?_set_ne (by omega)]; exact e.old i hi h1 h2⟩
theorem guard_nil {M : Mem} : Guarded M [] := fun p hp => nomatch hp
theorem setL {M : Mem} {n : Nat} {xs : List D} {v : D} {i : Int} (h : M[n]? = some (.lst xs)) (h0 : 0 ≤ i) (h1 : i < xs.length) : setI (.obj n) (.int i) v M = some (M.set n (.lst (xs.set i.toNat v))) := by
  unfold setI
  rw [asLst_of h]
  simp only [ixN, if_pos h0, if_pos h1, Option.map_some]
theorem ok_popL {M : Mem} {n : Nat} {xs : List D} {d : D} {Q : D → Mem → Prop} (h : M[n]? = some (.lst (xs ++ [d]))) : Ok (fPop (.obj n) [] M) Q ↔ Q d (M.set n (.lst xs)) := by
  unfold fPop
  simp only [asLst_of h, Option.bind_some]
  rw [show (xs ++ [d])[(xs ++ [d]).length - 1]? = some d by simp, List.dropLast_concat]
  exact ok_some
theorem fm {i j : Int} (h : 0 < j) : 0 ≤ i.fmod j ∧ i.fmod j < j := by
  rw [fmod_pos h]; exact ⟨Int.emod_nonneg _ (by omega), Int.emod_lt_of_pos _ h⟩
theorem draw_ok {M : Mem} {many : Int} {k c : Nat} (W : Well M k c) (h0 : 0 < many) (h1 : many < 1073741824) : Ok (f__law_take [.obj k, .int many] M) fun d M' => (∃ v, d = .int v ∧ 0 ≤ v ∧ v < many) ∧ Well M' k c ∧ Ext k c M M' := by
  obtain ⟨cells, t, r, hk, hc, hl, hkc⟩ := W.ex
  have hkl : k < M.length := (List.getElem?_eq_some_iff.mp hk).1
  have hcl : c < M.length := (List.getElem?_eq_some_iff.mp hc).1
  unfold f__law_take; rw [ok_fn]; unfold m__law_take
  walk_at "ok"
  rw [ok_ixL hk (by decide) (by simp) (d := .int t) rfl]
  walk_at "ok"
  refine ⟨M.set k (.lst [.obj c, .int r, .int (t + 1)]), setL hk (by decide) (by simp), ?_⟩
  generalize hM1 : M.set k (.lst [.obj c, .int r, .int (t + 1)]) = M1
  have hk1 : M1[k]? = some (.lst [.obj c, .int r, .int (t + 1)]) := by rw [← hM1]; simp [hkl]
  have hc1 : M1[c]? = some (.lst (cells.map .int)) := by rw [← hM1, List.getElem?_set_ne hkc]; exact hc
  have e1 : Ext k c M M1 := ⟨by rw [← hM1]; simp, fun i _ h2 h3 => by rw [← hM1, List.getElem?_set_ne (Ne.symm h2)]⟩
  have l1 : M1.length = M.length := by rw [← hM1]; simp
  rw [ok_ixL hk1 (by decide) (by simp) (d := .int r) rfl]
  rw [ok_ixL hk1 (by decide) (by simp) (d := .obj c) rfl]
  walk_at "ok"
  refine ⟨by decide, ?_⟩
  generalize hM2 : M1 ++ [MO.lst []] = M2
  have hk2 : M2[k]? = some (.lst [.obj c, .int r, .int (t + 1)]) := by rw [← hM2, List.getElem?_append_left (by omega)]; exact hk1
  have hc2 : M2[c]? = some (.lst (cells.map .int)) := by rw [← hM2, List.getElem?_append_left (by omega)]; exact hc1
  have hn2 : M2[M1.length]? = some (.lst (([] : List Int).map .int)) := by rw [← hM2]; simp
  have e2 : Ext k c M M2 := e1.trans ⟨by rw [← hM2]; simp, fun i hi _ _ => by rw [← hM2, List.getElem?_append_left hi]⟩
  have l2 : M2.length = M.length + 1 := by rw [← hM2]; simp [l1]
  rw [show neD (.obj c) (.obj M1.length) M2 = some (.bl (!PyData.eqvAll (cells.map .int) []), M2) by unfold neD; rw [eqB_ints hc2 hn2]; rfl, eqv_nil]
  walk_at "ok"
  have b2 := fun (i : Int) => fm (i := i) (j := 2147483629) (by decide)
  have b3 := fun (i : Int) => fm (i := i) (j := 2147483587) (by decide)
  rcases List.eq_nil_or_concat cells with rfl | ⟨rest, x, rfl⟩
  · rw [if_neg (by simp)]
    refine ⟨by decide, mul_right (by decide) (by decide), ?_⟩
    rw [ok_ixL hk2 (by decide) (by simp) (d := .int (t + 1)) rfl]
    walk_at "ok"
    refine ⟨mul_left (by decide) (by decide), by decide, mul_left (by have := b2 (r.fmod 2147483647 * 48271 + 69621 * (t + 1) + 7919); omega) (by have := b2 (r.fmod 2147483647 * 48271 + 69621 * (t + 1) + 7919); omega), by decide, mul_left (by have := b3 ((r.fmod 2147483647 * 48271 + 69621 * (t + 1) + 7919).fmod 2147483629 * (r.fmod 2147483647 * 48271 + 69621 * (t + 1) + 7919).fmod 2147483629); omega) (by have := b3 ((r.fmod 2147483647 * 48271 + 69621 * (t + 1) + 7919).fmod 2147483629 * (r.fmod 2147483647 * 48271 + 69621 * (t + 1) + 7919).fmod 2147483629); omega), by decide, fdiv_small (by decide) (by decide), by omega, fm h0, ⟨[], _, _, hk2, hc2, by simp, hkc⟩, e2⟩
  · rw [if_pos (by simp)]
    rw [List.concat_eq_append, List.map_append, List.map_cons, List.map_nil] at hc2
    rw [ok_ixL hk2 (by decide) (by simp) (d := .obj c) rfl]
    refine ⟨listAt hc2, ?_⟩
    rw [ok_popL hc2]
    generalize hM3 : M2.set c (.lst (rest.map .int)) = M3
    have hk3 : M3[k]? = some (.lst [.obj c, .int r, .int (t + 1)]) := by rw [← hM3, List.getElem?_set_ne (Ne.symm hkc)]; exact hk2
    have hc3 : M3[c]? = some (.lst (rest.map .int)) := by rw [← hM3, List.getElem?_set_self (by omega)]
    have e3 : Ext k c M M3 := e2.trans ⟨by rw [← hM3]; simp, fun i _ _ h3 => by rw [← hM3, List.getElem?_set_ne (Ne.symm h3)]⟩
    have l3 : M3.length = M.length + 1 := by rw [← hM3]; simp [l2]
    simp only [List.concat_eq_append, List.length_append, List.length_cons, List.length_nil] at hl
    walk_at "ok"
    refine ⟨by decide, ?_⟩
    by_cases hx : 10 ^ Int.toNat 18 ≤ x
    · rw [if_pos (decide_eq_true hx)]
      rw [ok_ixL hk3 (by decide) (by simp) (d := .obj c) rfl]
      refine ⟨listAt hc3, fdiv_small h0 h1, ?_⟩
      rw [ok_app hc3 (by rw [List.length_map]; exact Nat.lt_of_le_of_lt (show rest.length ≤ 63 by omega) (by decide))]
      try walk_at "ok"
      rw [fmod_pos h0]
      refine ⟨by omega, ⟨Int.emod_nonneg _ (by omega), Int.emod_lt_of_pos _ h0⟩, ⟨rest ++ [x.fdiv many], t + 1, r, ?_, ?_, by simp only [List.length_append, List.length_cons, List.length_nil]; omega, hkc⟩, e3.trans ⟨by simp, fun i _ _ h3 => List.getElem?_set_ne (Ne.symm h3)⟩⟩
      · rw [List.getElem?_set_ne (Ne.symm hkc)]; exact hk3
      · rw [List.getElem?_set_self (by omega)]; simp
    · rw [if_neg (by simpa using hx)]
      refine ⟨by decide, mul_right (by decide) (by decide), ?_⟩
      rw [ok_ixL hk3 (by decide) (by simp) (d := .int (t + 1)) rfl]
      walk_at "ok"
      refine ⟨mul_left (by decide) (by decide), by decide, mul_left (by have := b2 (x.fmod 2147483647 * 48271 + 69621 * (t + 1) + 7919); omega) (by have := b2 (x.fmod 2147483647 * 48271 + 69621 * (t + 1) + 7919); omega), by decide, mul_left (by have := b3 ((x.fmod 2147483647 * 48271 + 69621 * (t + 1) + 7919).fmod 2147483629 * (x.fmod 2147483647 * 48271 + 69621 * (t + 1) + 7919).fmod 2147483629); omega) (by have := b3 ((x.fmod 2147483647 * 48271 + 69621 * (t + 1) + 7919).fmod 2147483629 * (x.fmod 2147483647 * 48271 + 69621 * (t + 1) + 7919).fmod 2147483629); omega), by decide, fdiv_small (by decide) (by decide), by omega, fm h0, ⟨rest, _, _, hk3, hc3, by omega, hkc⟩, e3⟩
theorem deck_ok {ns : List Int} (hl : ns.length ≤ 63) : Ok (f__law_deck [.rol (ns.map D.int)] []) fun d M => ∃ k c, d = .obj k ∧ Well M k c := by
  unfold f__law_deck; rw [ok_fn]; unfold m__law_deck
  have cut : ∀ M : Mem, slD (.rol (ns.map D.int)) none (some 63) M = some (.obj M.length, M ++ [MO.lst (ns.map D.int)]) := fun M => by
    have h : cutD (ns.map D.int) none (some 63) = ns.map D.int := by
      unfold cutD
      rw [HT.sIx_none, show (some (63 : Int)) = some ((63 : Nat) : Int) from rfl, HT.sIx_nat]
      simp only [List.length_map, List.drop_zero, Nat.sub_zero]
      exact List.take_of_length_le (by simp; omega)
    simp only [slD, asList, h]
  walk_at "ok"
  rw [cut]
  walk_at "ok"
  rw [show fList [.obj 0] [MO.lst (ns.map D.int)] = some (.obj 1, [MO.lst (ns.map D.int), MO.lst (ns.map D.int)]) from rfl]
  walk_at "ok"
  rw [show revD (.obj 1) [MO.lst (ns.map D.int), MO.lst (ns.map D.int)] = some (.obj 2, [MO.lst (ns.map D.int), MO.lst (ns.map D.int), MO.lst (ns.map D.int).reverse]) from rfl]
  walk_at "ok"
  rw [show fSum [.obj 1] [MO.lst (ns.map D.int), MO.lst (ns.map D.int), MO.lst (ns.map D.int).reverse] = some (.int ns.sum, [MO.lst (ns.map D.int), MO.lst (ns.map D.int), MO.lst (ns.map D.int).reverse]) by
    simp only [fSum, asList, List.getElem?_cons_succ, List.getElem?_cons_zero, Option.bind_some, toInts_map, Option.map_some]]
  walk_at "ok"
  refine ⟨by decide, ?_⟩
  rw [show fLen [.obj 1] [MO.lst (ns.map D.int), MO.lst (ns.map D.int), MO.lst (ns.map D.int).reverse] = some (.int ns.length, [MO.lst (ns.map D.int), MO.lst (ns.map D.int), MO.lst (ns.map D.int).reverse]) by simp [fLen, asSeq, asList]]
  walk_at "ok"
  refine ⟨by decide, 3, 2, rfl, ⟨ns.reverse, 0, _, rfl, ?_, by simpa using hl, by decide⟩⟩
  show some (MO.lst (ns.map D.int).reverse) = _
  rw [List.map_reverse]
end
section
section
variable {M : Mem}
theorem mapM_pl {M : Mem} {P : PyData → Prop} : ∀ {xs : List D}, (∀ x ∈ xs, ∃ p, pd M 63 x = some p ∧ P p) → ∃ ps, xs.mapM (pd M 63) = some ps ∧ (∀ p ∈ ps, P p) ∧ ps.isEmpty = xs.isEmpty
  | [], _ => ⟨[], rfl, by simp, rfl⟩
  | x :: r, h => by
    obtain ⟨p, e, hp⟩ := h x List.mem_cons_self
    obtain ⟨ps, e2, hps, _⟩ := mapM_pl (fun y hy => h y (List.mem_cons_of_mem _ hy))
    refine ⟨p :: ps, by rw [List.mapM_cons, e, e2]; rfl, fun q hq => ?_, rfl⟩
    rcases List.mem_cons.mp hq with rfl | hq
    · exact hp
    · exact hps q hq
theorem ne_pl {M : Mem} {n m : Nat} {xs : List D} (h : M[n]? = some (.lst xs)) (h' : M[m]? = some (.lst [])) (hp : ∀ x ∈ xs, ∃ p, pd M 63 x = some p ∧ p.canLay0 = true ∧ p.depth ≤ 5) : neD (.obj n) (.obj m) M = some (.bl (!xs.isEmpty), M) := by
  obtain ⟨ps, e, hps, he⟩ := mapM_pl hp
  have hs : SeqAt.shaped (.list ps) = true := by
    have h1 : PyData.canLayAll0 ps = true := lay_all fun p hp => (hps p hp).1
    have h2 : PyData.depthAll ps ≤ 5 := depth_all fun p hp => (hps p hp).2
    unfold SeqAt.shaped
    simp only [PyData.canLay0, h1, PyData.depth, Bool.true_and]
    exact decide_eq_true (by omega)
  have hs2 : SeqAt.shaped (.list []) = true := by decide +kernel
  have e1 : pd M 64 (.obj n) = some (.list ps) := by simp only [pd, asList, h, Option.bind_some, e, Option.map_some]
  have e2 : pd M 64 (.obj m) = some (.list []) := by simp only [pd, asList, h', Option.bind_some]; rfl
  unfold neD eqB
  simp only [e1, e2, Option.bind_some, hs, hs2, and_self, if_true, PyData.eqv, Option.map_some]
  rw [← he]
  cases ps <;> rfl
theorem pair_pl {M : Mem} {a b : Int} : ∃ p, pd M 63 (.tup [.int a, .int b]) = some p ∧ p.canLay0 = true ∧ p.depth ≤ 5 := ⟨.tuple [.int a, .int b], rfl, by simp [PyData.canLay0, PyData.canLayAll0], by simp [PyData.depth, PyData.depthAll]⟩
theorem eqB_lists {n : Nat} {xs : List D} {a b : Nat} (ha : M[a]? = some (.lst xs)) (hb : M[b]? = some (.lst xs)) (h : ∀ x ∈ xs, Pln n x) (hn : n < 64) : eqB M (.obj a) (.obj b) = some true := by
  obtain ⟨ps, e, q⟩ := mapM_some (f := Mir.pd M 63) (P := fun p => p.canLay0 = true ∧ p.depth ≤ n) fun x hx => by
    obtain ⟨p, e1, e2, e3⟩ := (h x hx).pd (M := M) 63 (by omega)
    exact ⟨p, e1, e2, e3⟩
  have e1 : pd M 64 (.obj a) = some (.list ps) := by simp only [pd, asList, ha, Option.bind_some, e, Option.map_some]
  have e2 : pd M 64 (.obj b) = some (.list ps) := by simp only [pd, asList, hb, Option.bind_some, e, Option.map_some]
  have hc : PyData.canLay0 (.list ps) = true := by simp only [PyData.canLay0]; exact lay_all fun p hp => (q p hp).1
  have hs : SeqAt.shaped (.list ps) = true := by
    unfold SeqAt.shaped
    have hd : (PyData.list ps).depth ≤ 64 := by
      simp only [PyData.depth]
      have := depth_all fun p hp => (q p hp).2
      omega
    rw [hc, decide_eq_true hd]; rfl
  unfold eqB
  simp only [e1, e2, Option.bind_some, hs, and_self, if_true, SeqAt.eqv_refl _ hc]
end
theorem ok_Rng2 {mr : mA} {δ : DSt} {M : Mem} {QI : MI → Mem → Prop} : Ok (mRng2 mr δ M) QI ↔ Ok (mr δ M) fun ds M1 => ∃ i j, ds = [.int i, .int j] ∧ okR i = true ∧ okR j = true ∧ QI (rngI i j) M1 := by
  unfold mRng2
  constructor
  · rintro ⟨it, M', e, q⟩
    split at e
    · rename_i i j M1 e'; split at e
      · rename_i hj; cases e; exact ⟨_, _, e', i, j, rfl, hj.1, hj.2, q⟩
      · cases e
    · cases e
  · rintro ⟨ds, M1, e, i, j, rfl, hi, hj, q⟩
    rw [e]
    exact ⟨_, _, by simp only [hi, hj, and_self, if_true], q⟩
end
section
/-! windows narrowed: the pure part -/
abbrev Lag := Nat × Nat × Int
abbrev Vec := Nat → Int
def fst1 (F : Vec) (w : Lag) : Vec := fun k => if k = w.2.1 then max (F k) (F w.1 + w.2.2) else F k
def lst1 (L : Vec) (w : Lag) : Vec := fun k => if k = w.1 then min (L k) (L w.2.1 - w.2.2) else L k
def passF (F : Vec) (W : List Lag) : Vec := W.foldl fst1 F
def passL (L : Vec) (W : List Lag) : Vec := W.foldl lst1 L
def lastL (L : Vec) (W : List Lag) : Vec := W.foldr (fun w L => lst1 L w) L
theorem passL_rev (L : Vec) (W : List Lag) : passL L W.reverse = lastL L W := by
  unfold passL lastL; rw [List.foldl_reverse]
structure Lags (n : Nat) (W : List Lag) : Prop where
  lt : ∀ w ∈ W, w.1 < w.2.1 ∧ w.2.1 < n
  up : W.Pairwise fun w w' => w.1 ≤ w'.1
theorem Lags.tail {n w W} (h : Lags n (w :: W)) : Lags n W := ⟨fun x hx => h.lt x (List.mem_cons_of_mem _ hx), (List.pairwise_cons.mp h.up).2⟩
theorem fst1_ge {F : Vec} {w : Lag} {k : Nat} : F k ≤ fst1 F w k := by
  unfold fst1; split
  · omega
  · exact Int.le_refl _
theorem passF_ge : ∀ {W : List Lag} {F : Vec} {k : Nat}, F k ≤ passF F W k
  | [], _, _ => Int.le_refl _
  | w :: W, F, k => Int.le_trans fst1_ge (passF_ge (W := W) (F := fst1 F w))
theorem passF_same : ∀ {W : List Lag} {F : Vec} {k : Nat}, (∀ w ∈ W, w.2.1 ≠ k) → passF F W k = F k
  | [], _, _, _ => rfl
  | w :: W, F, k, h => by
    show passF (fst1 F w) W k = F k
    rw [passF_same fun x hx => h x (List.mem_cons_of_mem _ hx)]
    unfold fst1
    rw [if_neg (fun e => h w List.mem_cons_self e.symm)]
def FOk (F : Vec) (W : List Lag) : Prop := ∀ w ∈ W, F w.1 + w.2.2 ≤ F w.2.1
def LOk (L : Vec) (W : List Lag) : Prop := ∀ w ∈ W, L w.1 + w.2.2 ≤ L w.2.1
theorem passF_ok {n : Nat} : ∀ {W : List Lag} {F : Vec}, Lags n W → FOk (passF F W) W
  | [], _, _, _, h => nomatch h
  | w :: W, F, hW, x, hx => by
    rcases List.mem_cons.mp hx with rfl | hx
    · show passF (fst1 F x) W x.1 + x.2.2 ≤ passF (fst1 F x) W x.2.1
      have h1 := hW.lt x List.mem_cons_self
      rw [passF_same (k := x.1) fun y hy => by
        have a := (List.pairwise_cons.mp hW.up).1 y hy
        have b := hW.lt y (List.mem_cons_of_mem _ hy)
        omega]
      refine Int.le_trans ?_ passF_ge
      unfold fst1
      rw [if_neg (by omega), if_pos rfl]
      omega
    · exact passF_ok hW.tail x hx
theorem passF_fix : ∀ {W : List Lag} {F : Vec}, FOk F W → passF F W = F
  | [], _, _ => rfl
  | w :: W, F, h => by
    show passF (fst1 F w) W = F
    have e : fst1 F w = F := by
      funext k
      unfold fst1
      split
      · rename_i e; subst e
        have := h w List.mem_cons_self
        omega
      · rfl
    rw [e]
    exact passF_fix fun x hx => h x (List.mem_cons_of_mem _ hx)
theorem lst1_le {L : Vec} {w : Lag} {k : Nat} : lst1 L w k ≤ L k := by
  unfold lst1; split
  · omega
  · exact Int.le_refl _
theorem passL_le : ∀ {W : List Lag} {L : Vec} {k : Nat}, passL L W k ≤ L k
  | [], _, _ => Int.le_refl _
  | w :: W, L, k => Int.le_trans (passL_le (W := W) (L := lst1 L w)) lst1_le
theorem passL_one : ∀ {W : List Lag} {L : Vec} {w : Lag}, w ∈ W → passL L W w.1 + w.2.2 ≤ L w.2.1
  | x :: W, L, w, h => by
    show passL (lst1 L x) W w.1 + w.2.2 ≤ L w.2.1
    rcases List.mem_cons.mp h with rfl | h
    · have a := passL_le (W := W) (L := lst1 L w) (k := w.1)
      have b : lst1 L w w.1 ≤ L w.2.1 - w.2.2 := by
        unfold lst1
        rw [if_pos rfl]
        omega
      omega
    · have a := passL_one (W := W) (L := lst1 L x) h
      have b := lst1_le (L := L) (w := x) (k := w.2.1)
      omega
theorem passL_above {B : Vec} : ∀ {W : List Lag} {L : Vec}, LOk B W → (∀ k, B k ≤ L k) → ∀ k, B k ≤ passL L W k
  | [], _, _, h => h
  | w :: W, L, hB, h => passL_above (W := W) (L := lst1 L w) (fun x hx => hB x (List.mem_cons_of_mem _ hx)) fun k => by
    unfold lst1
    split
    · rename_i e; subst e
      have a := hB w List.mem_cons_self
      have b := h w.1
      have c := h w.2.1
      omega
    · exact h k
theorem lastL_le : ∀ {W : List Lag} {L : Vec} {k : Nat}, lastL L W k ≤ L k
  | [], _, _ => Int.le_refl _
  | w :: W, L, k => Int.le_trans (lst1_le (L := lastL L W)) (lastL_le (W := W))
theorem lastL_ok {n : Nat} : ∀ {W : List Lag} {L : Vec}, Lags n W → LOk (lastL L W) W
  | [], _, _, _, h => nomatch h
  | w :: W, L, hW, x, hx => by
    show lst1 (lastL L W) w x.1 + x.2.2 ≤ lst1 (lastL L W) w x.2.1
    rcases List.mem_cons.mp hx with rfl | hx
    · have h1 := hW.lt x List.mem_cons_self
      unfold lst1
      rw [if_pos rfl, if_neg (by omega)]
      omega
    · have a := lastL_ok (L := L) hW.tail x hx
      have h1 := hW.lt x (List.mem_cons_of_mem _ hx)
      have h2 := (List.pairwise_cons.mp hW.up).1 x hx
      have b := lst1_le (L := lastL L W) (w := w) (k := x.1)
      have c : lst1 (lastL L W) w x.2.1 = lastL L W x.2.1 := by
        unfold lst1
        rw [if_neg (by omega)]
      rw [c]
      omega
theorem lastL_tight {n : Nat} : ∀ {W : List Lag} {L : Vec} (k : Nat), Lags n W → lastL L W k = L k ∨ ∃ w ∈ W, w.1 = k ∧ lastL L W k = lastL L W w.2.1 - w.2.2
  | [], _, _, _ => .inl rfl
  | w :: W, L, k, hW => by
    have keep : ∀ x ∈ W, lst1 (lastL L W) w x.2.1 = lastL L W x.2.1 := fun x hx => by
      have h1 := hW.lt x (List.mem_cons_of_mem _ hx)
      have h2 := (List.pairwise_cons.mp hW.up).1 x hx
      unfold lst1
      rw [if_neg (by omega)]
    have h1 := hW.lt w List.mem_cons_self
    have hw : lst1 (lastL L W) w w.2.1 = lastL L W w.2.1 := by
      unfold lst1
      rw [if_neg (by omega)]
    show lst1 (lastL L W) w k = L k ∨ ∃ x ∈ w :: W, x.1 = k ∧ lst1 (lastL L W) w k = lst1 (lastL L W) w x.2.1 - x.2.2
    have ih := lastL_tight (L := L) k hW.tail
    by_cases e : lst1 (lastL L W) w k = lastL L W k
    · rcases ih with ih | ⟨x, hx, e1, e2⟩
      · exact .inl (e.trans ih)
      · exact .inr ⟨x, List.mem_cons_of_mem _ hx, e1, by rw [e, keep x hx, e2]⟩
    · refine .inr ⟨w, List.mem_cons_self, ?_, ?_⟩
      · unfold lst1 at e
        split at e
        · rename_i e'; exact e'.symm
        · exact absurd rfl e
      · rw [hw]
        unfold lst1 at e ⊢
        split at e
        · rename_i e'
          rw [if_pos e']
          omega
        · exact absurd rfl e
theorem lastL_fix : ∀ {W : List Lag} {L : Vec}, LOk L W → lastL L W = L
  | [], _, _ => rfl
  | w :: W, L, h => by
    show lst1 (lastL L W) w = L
    rw [lastL_fix fun x hx => h x (List.mem_cons_of_mem _ hx)]
    funext k
    unfold lst1
    split
    · rename_i e; subst e
      have := h w List.mem_cons_self
      omega
    · rfl
def iterF (F : Vec) (W : List Lag) : Nat → Vec
  | 0 => F
  | t + 1 => passF (iterF F W t) W
def iterL (L : Vec) (W : List Lag) : Nat → Vec
  | 0 => L
  | t + 1 => passL (iterL L W t) W
theorem iterF_eq {n : Nat} {W : List Lag} {F : Vec} (hW : Lags n W) : ∀ t, iterF F W (t + 1) = passF F W
  | 0 => rfl
  | t + 1 => by
    show passF (iterF F W (t + 1)) W = passF F W
    rw [iterF_eq hW t]
    exact passF_fix (passF_ok hW)
theorem iterL_le {W : List Lag} {L : Vec} {k : Nat} : ∀ t, iterL L W t k ≤ L k
  | 0 => Int.le_refl _
  | t + 1 => Int.le_trans passL_le (iterL_le t)
theorem iterL_eq {n : Nat} {W : List Lag} {L : Vec} (hW : Lags n W) : iterL L W n = lastL L W := by
  have hi : ∀ t k, n ≤ k + t → iterL L W t k ≤ lastL L W k := by
    intro t
    induction t with
    | zero =>
      intro k hk
      rcases lastL_tight (L := L) k hW with e | ⟨w, hw, e, _⟩
      · rw [e]; exact Int.le_refl _
      · have := hW.lt w hw
        omega
    | succ t ih =>
      intro k hk
      rcases lastL_tight (L := L) k hW with e | ⟨w, hw, e, e2⟩
      · rw [e]; exact iterL_le (t + 1)
      · subst e
        have a := passL_one (L := iterL L W t) hw
        have h1 := hW.lt w hw
        have b := ih w.2.1 (by omega)
        show passL (iterL L W t) W w.1 ≤ _
        omega
  have lo : ∀ t k, lastL L W k ≤ iterL L W t k := by
    intro t
    induction t with
    | zero => intro k; exact lastL_le
    | succ t ih => exact passL_above (lastL_ok hW) ih
  funext k
  exact Int.le_antisymm (hi n k (by omega)) (lo n k)
/-! vectors as lists -/
def vec (n : Nat) (F : Vec) : List Int := (List.range n).map F
theorem vec_len {n F} : (vec n F).length = n := by simp [vec]
theorem vec_get {n : Nat} {F : Vec} {k : Nat} (h : k < n) : (vec n F)[k]? = some (F k) := by simp [vec, h]
theorem vec_set {n : Nat} {F : Vec} {k : Nat} {v : Int} : (vec n F).set k v = vec n fun i => if i = k then v else F i := by
  apply List.ext_getElem?
  intro i
  by_cases hi : i < n
  · rw [vec_get hi, List.getElem?_set]
    by_cases e : k = i
    · subst e
      rw [if_pos rfl, if_pos (by rw [vec_len]; exact hi), if_pos rfl]
    · rw [if_neg e, vec_get hi, if_neg (Ne.symm e)]
  · rw [List.getElem?_eq_none (by simp [vec]; omega), List.getElem?_eq_none (by simp [vec]; omega)]
theorem vec_of (xs : List Int) : xs = vec xs.length fun k => xs.getD k 0 := by
  apply List.ext_getElem?
  intro i
  by_cases hi : i < xs.length
  · rw [vec_get hi]; simp [hi]
  · rw [List.getElem?_eq_none (by omega), List.getElem?_eq_none (by rw [vec_len]; omega)]
end
section
def lagD (w : Lag) : D := .tup [.int (w.1 : Nat), .int (w.2.1 : Nat), .int w.2.2]
abbrev F0 (S : List II) : Vec := fun k => (S.map (·.1)).getD k 0
abbrev L0 (S : List II) : Vec := fun k => (S.map (·.2)).getD k 0
theorem max_if {i j : Int} : (if j > i then j else i) = max i j := by split <;> omega
theorem min_if {i j : Int} : (if j < i then j else i) = min i j := by split <;> omega
def FIN (n : Nat) (F L : Vec) : Bool := (List.range n).any fun k => decide (F k > L k)
theorem ok_vec {M : Mem} {a n k : Nat} {F : Vec} {Q : D → Mem → Prop} (h : M[a]? = some (.lst ((vec n F).map D.int))) (hk : k < n) : Ok (ixD (.obj a) (.int (k : Nat)) M) Q ↔ Q (.int (F k)) M :=
  ok_ixL h (by omega) (by rw [List.length_map, vec_len]; omega) (by rw [Int.toNat_natCast, List.getElem?_map, vec_get hk]; rfl)
theorem set_vec {M : Mem} {a n k : Nat} {F : Vec} {v : Int} (h : M[a]? = some (.lst ((vec n F).map D.int))) (hk : k < n) : setI (.obj a) (.int (k : Nat)) (.int v) M = some (M.set a (.lst ((vec n fun i => if i = k then v else F i).map D.int))) := by
  rw [setL h (by omega) (by rw [List.length_map, vec_len]; omega), Int.toNat_natCast, ← vec_set, List.map_set]
theorem at_set {M : Mem} {a : Nat} {o o' : MO} (h : M[a]? = some o) : (M.set a o')[a]? = some o' := List.getElem?_set_self (List.getElem?_eq_some_iff.mp h).1
theorem pe_set {M M' : Mem} {a : Nat} {o : MO} (p : Pe M M') (h : M.length ≤ a) : Pe M (M'.set a o) := ⟨by rw [List.length_set]; exact p.len, fun i hi => by rw [List.getElem?_set_ne (by omega)]; exact p.old i hi⟩
theorem passF_snoc {F : Vec} {W : List Lag} {w : Lag} {i : Nat} (h : W[i]? = some w) : passF F (W.take (i + 1)) = fst1 (passF F (W.take i)) w := by
  unfold passF; rw [List.take_succ, h, List.foldl_append]; rfl
theorem passL_snoc {F : Vec} {W : List Lag} {w : Lag} {i : Nat} (h : W[i]? = some w) : passL F (W.take (i + 1)) = lst1 (passL F (W.take i)) w := by
  unfold passL; rw [List.take_succ, h, List.foldl_append]; rfl
theorem zipV_ok {tp : Bool} {M : Mem} {a b : Nat} {ms ns : List Int} (ha : M[a]? = some (.lst (ms.map .int))) (hb : M[b]? = some (.lst (ns.map .int))) (hl : ms.length = ns.length) (hn : ms.length ≤ 1000) :
    fZipV tp [.obj a, .obj b] M = some (if tp then (.tup ((List.zip ms ns).map pD), M) else (.obj M.length, M ++ [.lst ((List.zip ms ns).map pD)])) := by
  unfold fZipV
  simp only [asList, ha, hb, Option.bind_some, toInts_map]
  rw [if_pos ⟨hl, hn⟩]
theorem fst1_eq {F : Vec} {w : Lag} : (fun i => if i = w.2.1 then max (F w.2.1) (F w.1 + w.2.2) else F i) = fst1 F w := by
  funext k; unfold fst1; split
  · rename_i e; rw [e]
  · rfl
theorem lst1_eq {L : Vec} {w : Lag} : (fun i => if i = w.1 then min (L w.1) (L w.2.1 - w.2.2) else L i) = lst1 L w := by
  funext k; unfold lst1; split
  · rename_i e; rw [e]
  · rfl
theorem narrowed_ok {M : Mem} {n : Nat} {W : List Lag} {S : List II} (hW : Lags n W) (hS : S.length = n) (hn : n ≤ 1000) :
    Ok (f_narrowed [.tup (W.map lagD), .tup (S.map pD)] M) fun d M' => d = (if FIN n (passF (F0 S) W) (lastL (L0 S) W) = true then .non else .tup ((List.zip (vec n (passF (F0 S) W)) (vec n (lastL (L0 S) W))).map pD)) ∧ Pe M M' := by
  unfold f_narrowed; rw [ok_fn]; unfold m_narrowed
  walk_at "slots"
  refine seq_cut fun K hK => ?_; walk_at "okw"
  have eF : (S.map fun p => D.int p.1) = (vec n (F0 S)).map D.int := by
    rw [show vec n (F0 S) = S.map (·.1) by rw [vec_of (S.map (·.1)), List.length_map, hS], List.map_map]; rfl
  have eL : (S.map fun p => D.int p.2) = (vec n (L0 S)).map D.int := by
    rw [show vec n (L0 S) = S.map (·.2) by rw [vec_of (S.map (·.2)), List.length_map, hS], List.map_map]; rfl
  have hz : ∀ F : Vec, ((vec n F).map D.int).length ≤ sizeLine := fun F => by rw [List.length_map, vec_len]; exact Nat.le_trans hn (by decide)
  rw [lc_pure (inj := pD) (b := fun _ => true) (e := fun p => .int p.1) guard_nil S (fun p _ => ⟨_, rfl, rfl, fun _ => rfl⟩)]
  rw [List.filter_eq_self.mpr fun _ _ => rfl, eF, ok_some]
  refine ⟨hz _, ?_⟩
  subst hK; dsimp only
  refine seq_cut fun K hK => ?_; walk_at "okw"
  rw [lc_pure (inj := pD) (b := fun _ => true) (e := fun p => .int p.2) guard_nil S (fun p _ => ⟨_, rfl, rfl, fun _ => rfl⟩)]
  rw [List.filter_eq_self.mpr fun _ _ => rfl, eL, ok_some]
  refine ⟨hz _, ?_⟩
  subst hK; dsimp only
  generalize hM1 : M ++ [MO.lst ((vec n (F0 S)).map D.int)] = M1
  have p1 : Pe M M1 := hM1 ▸ Pe.app
  have a1 : M1[M.length]? = some (.lst ((vec n (F0 S)).map D.int)) := by rw [← hM1]; simp
  have l1 : M1.length = M.length + 1 := by rw [← hM1]; simp
  generalize hM2 : M1 ++ [MO.lst ((vec n (L0 S)).map D.int)] = M2
  have p2 : Pe M M2 := p1.trans (hM2 ▸ Pe.app)
  have a2 : M2[M.length]? = some (.lst ((vec n (F0 S)).map D.int)) := by rw [← hM2, List.getElem?_append_left (by omega)]; exact a1
  have b2 : M2[M1.length]? = some (.lst ((vec n (L0 S)).map D.int)) := by rw [← hM2]; simp
  have hab : M.length ≠ M1.length := by omega
  have hbl : M.length ≤ M1.length := by omega
  generalize hA : M.length = a at a2 hab hbl ⊢
  generalize M1.length = b at b2 hab hbl ⊢
  clear hM1 hM2 a1 l1 p1
  -- the firsts
  refine seq_mid (Q0 := fun f M' => ∃ x4 x5 x6, f = .nx [some (.tup (W.map lagD)), some (.tup (S.map pD)), some (.obj a), some (.obj b), x4, x5, x6, none, none] ∧ M'[a]? = some (.lst ((vec n (passF (F0 S) W)).map D.int)) ∧ M'[b]? = some (.lst ((vec n (L0 S)).map D.int)) ∧ Pe M M') (fun K' hK' => ?_) ?_
  · walk_at "okw"
    refine ok_loop (fun i δ M' => ∃ x4 x5 x6, δ = [some (.tup (W.map lagD)), some (.tup (S.map pD)), some (.obj a), some (.obj b), x4, x5, x6, none, none] ∧ M'[a]? = some (.lst ((vec n (passF (F0 S) (W.take i))).map D.int)) ∧ M'[b]? = some (.lst ((vec n (L0 S)).map D.int)) ∧ Pe M M') _ 0 _ _ ⟨_, _, _, rfl, a2, b2, p2⟩ (fun _ _ _ _ => guard_nil) ?_ ?_
    · rintro i d δ M' hd ⟨x4, x5, x6, rfl, ha, hb, hp⟩
      rw [Nat.zero_add] at ha ⊢
      rw [List.getElem?_map, Option.map_eq_some_iff] at hd
      obtain ⟨w, hw, rfl⟩ := hd
      have hwl := hW.lt w (List.mem_of_getElem? hw)
      refine ⟨_, rfl, ?_⟩
      dsimp only [setAll, List.set]
      walk_at "okw"
      rw [ok_vec ha hwl.2, ok_vec ha (Nat.lt_trans hwl.1 hwl.2)]
      walk_at "okw"
      refine ⟨_, _, rfl, _, set_vec ha hwl.2, _, _, _, rfl, ?_, by rw [List.getElem?_set_ne hab]; exact hb, pe_set hp (by omega)⟩
      rw [at_set ha, passF_snoc hw, max_if, fst1_eq]
    · rintro δ M' ⟨x4, x5, x6, rfl, ha, hb, hp⟩
      rw [Nat.zero_add, List.length_map, List.take_length] at ha
      exact hK' _ _ ⟨_, _, _, rfl, ha, hb, hp⟩
  clear a2 b2 p2
  rintro f M3 ⟨x4, x5, x6, rfl, ha, hb, p3⟩
  dsimp only
  -- the lasts
  refine seq_mid (Q0 := fun f M' => ∃ x4 x5 x6, f = .nx [some (.tup (W.map lagD)), some (.tup (S.map pD)), some (.obj a), some (.obj b), x4, x5, x6, none, none] ∧ M'[a]? = some (.lst ((vec n (passF (F0 S) W)).map D.int)) ∧ M'[b]? = some (.lst ((vec n (lastL (L0 S) W)).map D.int)) ∧ Pe M M') (fun K' hK' => ?_) ?_
  · walk_at "okw"
    rw [← List.map_reverse]
    refine ok_loop (fun i δ M' => ∃ x4 x5 x6, δ = [some (.tup (W.map lagD)), some (.tup (S.map pD)), some (.obj a), some (.obj b), x4, x5, x6, none, none] ∧ M'[a]? = some (.lst ((vec n (passF (F0 S) W)).map D.int)) ∧ M'[b]? = some (.lst ((vec n (passL (L0 S) (W.reverse.take i))).map D.int)) ∧ Pe M M') _ 0 _ _ ⟨_, _, _, rfl, ha, hb, p3⟩ (fun _ _ _ _ => guard_nil) ?_ ?_
    · clear ha hb p3
      rintro i d δ M' hd ⟨x4, x5, x6, rfl, ha, hb, hp⟩
      rw [Nat.zero_add] at hb ⊢
      rw [List.getElem?_map, Option.map_eq_some_iff] at hd
      obtain ⟨w, hw, rfl⟩ := hd
      have hwl := hW.lt w (List.mem_reverse.mp (List.mem_of_getElem? hw))
      refine ⟨_, rfl, ?_⟩
      dsimp only [setAll, List.set]
      walk_at "okw"
      rw [ok_vec hb (Nat.lt_trans hwl.1 hwl.2), ok_vec hb hwl.2]
      walk_at "okw"
      refine ⟨_, _, rfl, _, set_vec hb (Nat.lt_trans hwl.1 hwl.2), _, _, _, rfl, by rw [List.getElem?_set_ne (Ne.symm hab)]; exact ha, ?_, pe_set hp (by omega)⟩
      rw [at_set hb, passL_snoc hw, min_if, lst1_eq]
    · clear ha hb p3
      rintro δ M' ⟨x4, x5, x6, rfl, ha, hb, hp⟩
      rw [Nat.zero_add, List.length_map, List.take_length, passL_rev] at hb
      exact hK' _ _ ⟨_, _, _, rfl, ha, hb, hp⟩
  clear ha hb p3
  rintro f M3 ⟨x4, x5, x6, rfl, ha, hb, p3⟩
  dsimp only
  have zz : zipD ((vec n (passF (F0 S) W)).map D.int) ((vec n (lastL (L0 S) W)).map D.int) = (List.zip (vec n (passF (F0 S) W)) (vec n (lastL (L0 S) W))).map pD := by
    unfold zipD; rw [List.zip_map, List.map_map]; rfl
  have hany : ((List.zip (vec n (passF (F0 S) W)) (vec n (lastL (L0 S) W))).map pD).any (fun d => match d with | .tup [.int x, .int y] => decide (x > y) | _ => false) = FIN n (passF (F0 S) W) (lastL (L0 S) W) := by
    unfold FIN vec
    rw [List.zip_map', List.map_map, List.any_map]
    rfl
  refine seq_cut fun K hK => ?_; walk_at "okw"
  refine ⟨_, _, _, _, rfl, itAny_lst ha, itAny_lst hb, ?_⟩
  dsimp only
  show Ok (genM false (([(a, .lst ((vec n (passF (F0 S) W)).map D.int))] : List (Nat × MO)) ++ [(b, .lst ((vec n (lastL (L0 S) W)).map D.int))]) _ _ _ _ (zipD ((vec n (passF (F0 S) W)).map D.int) ((vec n (lastL (L0 S) W)).map D.int)) M3) _
  rw [zz, gen_any (b := fun d => match d with | .tup [.int x, .int y] => decide (x > y) | _ => false) (fun p hp => ?_) _ (fun x hx => ?_), hany]
  · rw [ok_some]
    cases hf : FIN n (passF (F0 S) W) (lastL (L0 S) W) with
    | true =>
      rw [ifp_t]
      subst hK; dsimp only
      exact ⟨by rw [hf]; simp, p3⟩
    | false =>
      rw [ifp_f]
      subst hK; dsimp only
      walk_at "okw"
      rw [zipV_ok ha hb (by rw [vec_len, vec_len]) (by rw [vec_len]; exact hn), ok_some, hf]
      exact ⟨rfl, p3⟩
  · rcases List.mem_append.mp hp with h | h
    · rcases List.mem_singleton.mp h with rfl; exact ha
    · rcases List.mem_singleton.mp h with rfl; exact hb
  · obtain ⟨q, hq, rfl⟩ := List.mem_map.mp hx
    exact ⟨_, rfl, rfl⟩
end
section
/-! the law's narrowing -/
theorem law_narrowed_ok {M : Mem} {n : Nat} {W : List Lag} {S : List II} (hW : Lags n W) (hS : S.length = n) (hn : n ≤ 1000) :
    Ok (f__law_narrowed [.tup (W.map lagD), .tup (S.map pD)] M) fun d M' => ∃ z : Nat, d = .obj z ∧ M'[z]? = some (.lst ((List.zip (vec n (iterF (F0 S) W n)) (vec n (iterL (L0 S) W n))).map pD)) ∧ M.length ≤ z ∧ Pe M M' := by
  unfold f__law_narrowed; rw [ok_fn]; unfold m__law_narrowed
  walk_at "slots"
  have eF : (S.map fun p => D.int p.1) = (vec n (F0 S)).map D.int := by
    rw [show vec n (F0 S) = S.map (·.1) by rw [vec_of (S.map (·.1)), List.length_map, hS], List.map_map]; rfl
  have eL : (S.map fun p => D.int p.2) = (vec n (L0 S)).map D.int := by
    rw [show vec n (L0 S) = S.map (·.2) by rw [vec_of (S.map (·.2)), List.length_map, hS], List.map_map]; rfl
  have hz : ∀ F : Vec, ((vec n F).map D.int).length ≤ sizeLine := fun F => by rw [List.length_map, vec_len]; exact Nat.le_trans hn (by decide)
  refine seq_cut fun K hK => ?_; walk_at "okw"
  rw [lc_pure (inj := pD) (b := fun _ => true) (e := fun p => .int p.1) guard_nil S (fun p _ => ⟨_, rfl, rfl, fun _ => rfl⟩)]
  rw [List.filter_eq_self.mpr fun _ _ => rfl, eF, ok_some]
  refine ⟨hz _, ?_⟩
  subst hK; dsimp only
  refine seq_cut fun K hK => ?_; walk_at "okw"
  rw [lc_pure (inj := pD) (b := fun _ => true) (e := fun p => .int p.2) guard_nil S (fun p _ => ⟨_, rfl, rfl, fun _ => rfl⟩)]
  rw [List.filter_eq_self.mpr fun _ _ => rfl, eL, ok_some]
  refine ⟨hz _, ?_⟩
  subst hK; dsimp only
  generalize hM1 : M ++ [MO.lst ((vec n (F0 S)).map D.int)] = M1
  have p1 : Pe M M1 := hM1 ▸ Pe.app
  have a1 : M1[M.length]? = some (.lst ((vec n (F0 S)).map D.int)) := by rw [← hM1]; simp
  have l1 : M1.length = M.length + 1 := by rw [← hM1]; simp
  generalize hM2 : M1 ++ [MO.lst ((vec n (L0 S)).map D.int)] = M2
  have p2 : Pe M M2 := p1.trans (hM2 ▸ Pe.app)
  have a2 : M2[M.length]? = some (.lst ((vec n (F0 S)).map D.int)) := by rw [← hM2, List.getElem?_append_left (by omega)]; exact a1
  have b2 : M2[M1.length]? = some (.lst ((vec n (L0 S)).map D.int)) := by rw [← hM2]; simp
  have hab : M.length ≠ M1.length := by omega
  have hbl : M.length ≤ M1.length := by omega
  generalize hA : M.length = a at a2 hab hbl ⊢
  generalize M1.length = b at b2 hab hbl ⊢
  clear hM1 hM2 a1 l1 p1
  refine seq_mid (Q0 := fun f M' => ∃ x4 x5 x6 x7, f = .nx [some (.tup (W.map lagD)), some (.tup (S.map pD)), some (.obj a), some (.obj b), x4, x5, x6, x7, none] ∧ M'[a]? = some (.lst ((vec n (iterF (F0 S) W n)).map D.int)) ∧ M'[b]? = some (.lst ((vec n (iterL (L0 S) W n)).map D.int)) ∧ Pe M M') (fun K' hK' => ?_) ?_
  · walk_at "okw"
    rw [List.length_map, hS]
    refine ⟨by unfold okR; simp; omega, ?_⟩
    have hnl : (rngI 0 (n : Int)).items.length = n := by simp [rngI]
    refine ok_loop (fun t δ M' => ∃ x4 x5 x6 x7, δ = [some (.tup (W.map lagD)), some (.tup (S.map pD)), some (.obj a), some (.obj b), x4, x5, x6, x7, none] ∧ M'[a]? = some (.lst ((vec n (iterF (F0 S) W t)).map D.int)) ∧ M'[b]? = some (.lst ((vec n (iterL (L0 S) W t)).map D.int)) ∧ Pe M M') _ 0 _ _ ⟨_, _, _, _, rfl, a2, b2, p2⟩ (fun _ _ _ _ => guard_nil) ?_ ?_
    · clear a2 b2 p2
      rintro t d δ M3 hd ⟨x4, x5, x6, x7, rfl, ha, hb, hp⟩
      rw [Nat.zero_add] at ha hb ⊢
      refine ⟨_, rfl, ?_⟩
      dsimp only [setAll, List.set]
      walk_at "okw"
      refine ok_loop (fun i δ M' => ∃ x4 x5 x6 x7, δ = [some (.tup (W.map lagD)), some (.tup (S.map pD)), some (.obj a), some (.obj b), x4, x5, x6, x7, none] ∧ M'[a]? = some (.lst ((vec n (passF (iterF (F0 S) W t) (W.take i))).map D.int)) ∧ M'[b]? = some (.lst ((vec n (passL (iterL (L0 S) W t) (W.take i))).map D.int)) ∧ Pe M M') _ 0 _ _ ⟨_, _, _, _, rfl, ha, hb, hp⟩ (fun _ _ _ _ => guard_nil) ?_ ?_
      · clear ha hb hp
        rintro i d δ M4 hd ⟨x4, x5, x6, x7, rfl, ha, hb, hp⟩
        rw [Nat.zero_add] at ha hb ⊢
        rw [List.getElem?_map, Option.map_eq_some_iff] at hd
        obtain ⟨w, hw, rfl⟩ := hd
        have hwl := hW.lt w (List.mem_of_getElem? hw)
        refine ⟨_, rfl, ?_⟩
        dsimp only [setAll, List.set]
        refine seq_cut fun K hK => ?_; walk_at "okw"
        rw [ok_vec ha hwl.2, ok_vec ha (Nat.lt_trans hwl.1 hwl.2)]
        walk_at "okw"
        refine ⟨_, _, rfl, _, set_vec ha hwl.2, ?_⟩
        subst hK; dsimp only
        rw [max_if, fst1_eq, ← passF_snoc hw]
        have ha' := at_set (o' := .lst ((vec n (passF (iterF (F0 S) W t) (W.take (i + 1)))).map D.int)) ha
        have hb' : (M4.set a (.lst ((vec n (passF (iterF (F0 S) W t) (W.take (i + 1)))).map D.int)))[b]? = some (.lst ((vec n (passL (iterL (L0 S) W t) (W.take i))).map D.int)) := by rw [List.getElem?_set_ne hab]; exact hb
        have hp' : Pe M (M4.set a (.lst ((vec n (passF (iterF (F0 S) W t) (W.take (i + 1)))).map D.int))) := pe_set hp (by omega)
        generalize M4.set a (.lst ((vec n (passF (iterF (F0 S) W t) (W.take (i + 1)))).map D.int)) = M5 at ha' hb' hp' ⊢
        clear ha hb hp
        walk_at "okw"
        rw [ok_vec hb' (Nat.lt_trans hwl.1 hwl.2), ok_vec hb' hwl.2]
        walk_at "okw"
        refine ⟨_, _, rfl, _, set_vec hb' (Nat.lt_trans hwl.1 hwl.2), _, _, _, _, rfl, by rw [List.getElem?_set_ne (Ne.symm hab)]; exact ha', ?_, pe_set hp' (by omega)⟩
        rw [at_set hb', passL_snoc hw, min_if, lst1_eq]
      · clear ha hb hp
        rintro δ M4 ⟨x4, x5, x6, x7, rfl, ha, hb, hp⟩
        rw [Nat.zero_add, List.length_map, List.take_length] at ha hb
        exact ⟨_, _, _, _, rfl, ha, hb, hp⟩
    · clear a2 b2 p2
      rintro δ M3 ⟨x4, x5, x6, x7, rfl, ha, hb, hp⟩
      rw [Nat.zero_add, hnl] at ha hb
      exact hK' _ _ ⟨_, _, _, _, rfl, ha, hb, hp⟩
  clear a2 b2 p2
  rintro f M3 ⟨x4, x5, x6, x7, rfl, ha, hb, p3⟩
  dsimp only
  walk_at "okw"
  rw [zipV_ok ha hb (by rw [vec_len, vec_len]) (by rw [vec_len]; exact hn), if_neg (by simp), ok_some]
  exact ⟨_, rfl, at_end, by have := p3.len; omega, p3.trans Pe.app⟩
/-! what is empty, what is told -/
theorem empty_ok {M : Mem} {z n : Nat} {F L : Vec} (h : M[z]? = some (.lst ((List.zip (vec n F) (vec n L)).map pD))) (hn : n ≤ 1000) : Ok (f__law_is_empty [.obj z] M) fun d M' => d = .bl (FIN n F L) ∧ Pe M M' := by
  unfold f__law_is_empty; rw [ok_fn]; unfold m__law_is_empty
  walk_at "slots"
  walk_at "okw"
  refine ⟨_, itAny_lst h, ?_⟩
  dsimp only
  rw [lc_pure (inj := pD) (b := fun p => decide (p.1 > p.2)) (e := pD) (guard_lst h) _ (fun p _ => ⟨_, rfl, rfl, fun _ => rfl⟩), ok_some]
  refine ⟨?_, Nat.zero_le _, ?_⟩
  · rw [List.length_map]
    refine Nat.le_trans (List.length_filter_le _ _) ?_
    rw [List.length_zip, vec_len, vec_len, Nat.min_self]
    exact Nat.le_trans hn (by decide)
  have h1 : ∀ X : Mem, (M ++ [MO.lst (((List.zip (vec n F) (vec n L)).filter fun p => decide (p.1 > p.2)).map pD)] ++ X)[M.length]? = some (.lst (((List.zip (vec n F) (vec n L)).filter fun p => decide (p.1 > p.2)).map pD)) := fun X => by
    rw [List.append_assoc, List.getElem?_append_right (Nat.le_refl _)]; simp
  rw [ne_pl (h1 _) at_end fun x hx => by
    obtain ⟨q, _, rfl⟩ := List.mem_map.mp hx
    exact pair_pl, ok_some]
  refine ⟨?_, Pe.app.trans Pe.app⟩
  unfold FIN vec
  rw [List.zip_map', List.filter_map, List.map_map, List.isEmpty_map]
  congr 1
  rw [Bool.eq_iff_iff]
  simp [List.any_eq_true, List.isEmpty_iff, List.filter_eq_nil_iff]
theorem plain_whole {M : Mem} {v : Int} : Ok (f__law_whole [.int v] M) fun d M' => d = .bl true ∧ M' = M := by
  unfold f__law_whole; rw [ok_fn]; unfold m__law_whole
  walk_at "ok"
theorem told_ok {M : Mem} {z n : Nat} {F L : Vec} (h : M[z]? = some (.lst ((List.zip (vec n F) (vec n L)).map pD))) (hn : n ≤ 1000) : Ok (f__law_is_told [.tup ((List.zip (vec n F) (vec n L)).map pD), .obj z] M) fun d M' => d = .bl true ∧ Pe M M' := by
  unfold f__law_is_told; rw [ok_fn]; unfold m__law_is_told
  walk_at "slots"
  refine seq_cut fun K hK => ?_; walk_at "okw"
  rw [show fList [.tup ((List.zip (vec n F) (vec n L)).map pD)] M = some (.obj M.length, M ++ [.lst ((List.zip (vec n F) (vec n L)).map pD)]) from rfl, ok_some]
  generalize hM1 : M ++ [MO.lst ((List.zip (vec n F) (vec n L)).map pD)] = M1
  have p1 : Pe M M1 := hM1 ▸ Pe.app
  have a1 : M1[M.length]? = some (.lst ((List.zip (vec n F) (vec n L)).map pD)) := by rw [← hM1]; simp
  rw [show neD (.obj M.length) (.obj z) M1 = some (.bl false, M1) by
    unfold neD
    rw [eqB_lists (n := 1) a1 (p1.at h) (fun x hx => by
      obtain ⟨p, _, rfl⟩ := List.mem_map.mp hx
      refine .tup fun y hy => ?_
      simp only [List.mem_cons, List.not_mem_nil, or_false] at hy
      rcases hy with rfl | rfl <;> exact .int _) (by decide)]; rfl, ok_some]
  refine ⟨_, rfl, ?_⟩
  rw [ifp_f]
  subst hK; dsimp only
  clear hM1 a1
  refine seq_mid (Q0 := fun f M' => ∃ x2, f = .nx [some (.tup ((List.zip (vec n F) (vec n L)).map pD)), some (.obj z), x2] ∧ Pe M M') (fun K' hK' => ?_) ?_
  · walk_at "okw"
    refine ok_loop (fun i δ M' => ∃ x2, δ = [some (.tup ((List.zip (vec n F) (vec n L)).map pD)), some (.obj z), x2] ∧ Pe M M') _ 0 _ _ ⟨_, rfl, p1⟩ (fun _ _ _ _ => guard_nil) ?_ ?_
    · rintro i d δ M2 hd ⟨x2, rfl, p2⟩
      rw [List.getElem?_map, Option.map_eq_some_iff] at hd
      obtain ⟨q, hq, rfl⟩ := hd
      refine ⟨_, rfl, ?_⟩
      dsimp only [setAll, List.set]
      walk_at "okw"
      rw [show (!((2 : Nat) : Int) == 2) = false from rfl, ifp_f]
      refine plain_whole.imp ?_
      rintro _ _ ⟨rfl, rfl⟩
      refine ⟨true, rfl, ?_⟩
      rw [show (!true) = false from rfl, ifp_f]
      refine plain_whole.imp ?_
      rintro _ _ ⟨rfl, rfl⟩
      refine ⟨true, rfl, ?_⟩
      rw [show (!true) = false from rfl, ifp_f]
      exact ⟨_, rfl, p2⟩
    · rintro δ M2 ⟨x2, rfl, p2⟩
      exact hK' _ _ ⟨_, rfl, p2⟩
  · rintro f M2 ⟨x2, rfl, p2⟩
    dsimp only
    walk_at "okw"
    exact p2
end
section
/-! what is drawn -/
theorem ok_pick {M : Mem} {n : Nat} {xs : List D} {v : Int} {Q : D → Mem → Prop} (h : M[n]? = some (.lst xs)) (h0 : 0 ≤ v) (h1 : v < xs.length) (q : ∀ d ∈ xs, Q d M) : Ok (ixD (.obj n) (.int v) M) Q := by
  have hv : v.toNat < xs.length := by omega
  exact (ok_ixL h h0 h1 (List.getElem?_eq_getElem hv)).mpr (q _ (List.getElem_mem hv))
theorem bit {b : Bool} : (0 : Int) ≤ (if b = true then 1 else 0) ∧ (if b = true then (1 : Int) else 0) < 2 := by cases b <;> decide
theorem drawn_ok {M : Mem} {k c : Nat} (W0 : Well M k c) : Ok (f__law_drawn [.obj k] M) fun d M' => ∃ (n : Nat) (W : List Lag) (S : List II), d = .tup [.tup (W.map lagD), .tup (S.map pD)] ∧ 1 ≤ n ∧ n ≤ 24 ∧ Lags n W ∧ S.length = n ∧ Well M' k c ∧ Ext k c M M' := by
  unfold f__law_drawn; rw [ok_fn]; unfold m__law_drawn
  walk_at "slots"
  refine seq_cut fun K hK => ?_; walk_at "okw"
  refine (draw_ok W0 (by decide) (by decide)).imp ?_
  rintro _ M1 ⟨⟨v1, rfl, v10, v11⟩, W1, e1⟩
  walk_at "okw"
  subst hK; dsimp only
  have hg := bit (b := v1 == 5)
  generalize (if (v1 == 5) = true then (1 : Int) else 0) = g at hg ⊢
  -- how many
  refine seq_mid (Q0 := fun f M' => ∃ n : Nat, f = .nx [some (.obj k), some (.int g), some (.int (n : Nat)), none, none, none, none, none, none, none, none] ∧ 1 ≤ n ∧ n ≤ 24 ∧ Well M' k c ∧ Ext k c M M') (fun K hK => ?_) ?_
  · walk_at "okw"
    refine (draw_ok W1 (by decide) (by decide)).imp ?_
    rintro _ M2 ⟨⟨v2, rfl, v20, v21⟩, W2, e2⟩
    walk_at "okw"
    refine ⟨by decide, ok_pick at_end hg.1 (by simpa using hg.2) fun d hd => ?_⟩
    have hq : Well (M2 ++ [MO.lst [.int (1 + v2), .int 24]]) k c ∧ Ext k c M (M2 ++ [MO.lst [.int (1 + v2), .int 24]]) := ⟨W2.pe Pe.app, (e1.trans e2).trans Pe.app.ext⟩
    simp only [List.mem_cons, List.not_mem_nil, or_false] at hd
    rcases hd with rfl | rfl
    · exact hK _ _ ⟨(1 + v2).toNat, by rw [Int.toNat_of_nonneg (by omega)], by omega, by omega, hq⟩
    · exact hK _ _ ⟨24, rfl, by decide, by decide, hq⟩
  clear W1 e1
  rintro f M2 ⟨n, rfl, n1, n24, W2, e2⟩
  dsimp only
  refine seq_cut fun K hK => ?_; walk_at "okw"
  refine (draw_ok W2 (by decide) (by decide)).imp ?_
  rintro _ M3 ⟨⟨v3, rfl, v30, v31⟩, W3, e3⟩
  replace e3 := e2.trans e3
  clear W2 e2
  walk_at "okw"
  subst hK; dsimp only
  refine seq_cut fun K hK => ?_; walk_at "okw"
  subst hK; dsimp only
  have l3 := e3.len
  have W4 := W3.pe (Pe.app (l := [MO.lst []]))
  have e4 := e3.trans (Pe.app (M := M3) (l := [MO.lst []])).ext (k := k) (c := c)
  have a4 : (M3 ++ [MO.lst []])[M3.length]? = some (.lst (([] : List Lag).map lagD)) := by simp
  have hlk : M3.length ≠ k := Ne.symm (Nat.ne_of_lt W3.lt.1)
  have hlc : M3.length ≠ c := Ne.symm (Nat.ne_of_lt W3.lt.2)
  generalize M3 ++ [MO.lst []] = M4 at W4 e4 a4 ⊢
  generalize M3.length = l at a4 hlk hlc l3 ⊢
  clear W3 e3
  refine ⟨Nat.zero_le _, ?_⟩
  refine seq_mid (Q0 := fun f M' => ∃ (W : List Lag) (x5 x6 : Option D), f = .nx [some (.obj k), some (.int g), some (.int (n : Nat)), some (.int (1 + v3)), some (.obj l), x5, x6, none, none, none, none] ∧ M'[l]? = some (.lst (W.map lagD)) ∧ Lags n W ∧ W.length ≤ 600 ∧ Well M' k c ∧ Ext k c M M') (fun K hK => ?_) ?_
  · walk_at "okw"
    refine ⟨by unfold okR; simp; omega, ?_⟩
    have hnl : (rngI 0 (n : Int)).items.length = n := by simp [rngI]
    refine ok_loop (fun i δ M' => ∃ (W : List Lag) (x5 x6 : Option D), δ = [some (.obj k), some (.int g), some (.int (n : Nat)), some (.int (1 + v3)), some (.obj l), x5, x6, none, none, none, none] ∧ M'[l]? = some (.lst (W.map lagD)) ∧ Lags n W ∧ (∀ w ∈ W, w.1 < i) ∧ W.length ≤ 24 * i ∧ i ≤ n ∧ Well M' k c ∧ Ext k c M M') _ 0 _ _ ⟨[], _, _, rfl, a4, ⟨by simp, .nil⟩, by simp, by simp, Nat.zero_le _, W4, e4⟩ (fun _ _ _ _ => guard_nil) ?_ ?_
    · clear a4 W4 e4
      rintro i d δ M5 hd ⟨W, x5, x6, rfl, a5, hW, hWi, hWl, hin, W5, e5⟩
      rw [Nat.zero_add] at hWi hWl hin ⊢
      have hi : i < n := by have := (List.getElem?_eq_some_iff.mp hd).1; rw [hnl] at this; exact this
      have hdi : d = .int (i : Nat) := by
        have : (rngI 0 (n : Int)).items = (List.range n).map fun t : Nat => D.int (0 + (t : Int)) := by simp [rngI]
        rw [this, List.getElem?_map, List.getElem?_range hi] at hd
        simpa using hd.symm
      subst hdi
      refine ⟨_, rfl, ?_⟩
      dsimp only [setAll, List.set]
      walk_at "okw"
      rw [ok_Rng2]
      walk_at "okw"
      refine ⟨_, _, rfl, by unfold okR; simp; omega, by unfold okR; simp; omega, ?_⟩
      have hjl : (rngI ((i : Int) + 1) (n : Int)).items.length = n - (i + 1) := by simp [rngI]; omega
      refine ok_loop (fun j δ M' => ∃ (W : List Lag) (x6 : Option D), δ = [some (.obj k), some (.int g), some (.int (n : Nat)), some (.int (1 + v3)), some (.obj l), some (.int (i : Nat)), x6, none, none, none, none] ∧ M'[l]? = some (.lst (W.map lagD)) ∧ Lags n W ∧ (∀ w ∈ W, w.1 ≤ i) ∧ W.length ≤ 24 * i + j ∧ Well M' k c ∧ Ext k c M M') _ 0 _ _ ⟨W, _, rfl, a5, hW, fun w hw => Nat.le_of_lt (hWi w hw), hWl, W5, e5⟩ (fun _ _ _ _ => guard_nil) ?_ ?_
      · clear hW hWi hWl W5 e5 a5 hd
        rintro j d δ M5 hd ⟨W, x6, rfl, a5, hW, hWi, hWl, W5, e5⟩
        rw [Nat.zero_add] at hWl ⊢
        have hj : j < n - (i + 1) := by have := (List.getElem?_eq_some_iff.mp hd).1; rw [hjl] at this; exact this
        have hdj : d = .int ((i + 1 + j : Nat) : Int) := by
          have : (rngI ((i : Int) + 1) (n : Int)).items = (List.range (n - (i + 1))).map fun t : Nat => D.int ((i : Int) + 1 + (t : Int)) := by
            simp only [rngI]
            rw [show ((n : Int) - ((i : Int) + 1)).toNat = n - (i + 1) by omega]
          rw [this, List.getElem?_map, List.getElem?_range hj] at hd
          simp only [Option.map_some, Option.some.injEq] at hd
          rw [← hd]; simp
        subst hdj
        refine ⟨_, rfl, ?_⟩
        dsimp only [setAll, List.set]
        walk_at "okw"
        refine (draw_ok W5 (by omega) (by omega)).imp ?_
        rintro _ M6 ⟨⟨v6, rfl, v60, v61⟩, W6, e6⟩
        have a6 := e6.at a5 hlk hlc
        replace e6 := e5.trans e6
        rw [show eqD (.int v6) (.int 0) M6 = some (.bl (v6 == 0), M6) from rfl, ok_some]
        refine ⟨_, rfl, ?_⟩
        cases v6 == 0 with
        | true =>
          rw [ifp_t]
          refine ⟨listAt a6, (draw_ok W6 (by decide) (by decide)).imp ?_⟩
          rintro _ M7 ⟨⟨v7, rfl, v70, v71⟩, W7, e7⟩
          have a7 := e7.at a6 hlk hlc
          replace e7 := e6.trans e7
          refine ⟨by decide, ?_⟩
          rw [ok_app a7 (by rw [List.length_map]; exact Nat.lt_of_le_of_lt (show W.length ≤ 1000 by omega) (by decide))]
          refine ⟨W ++ [(i, i + 1 + j, v7)], _, rfl, ?_, ⟨?_, ?_⟩, ?_, ?_, W7.set hlk hlc, ext_high e7 l3⟩
          · rw [at_set a7]; simp [lagD]
          · intro w hw
            rcases List.mem_append.mp hw with hw | hw
            · exact hW.lt w hw
            · rcases List.mem_singleton.mp hw with rfl
              exact ⟨by simp only; omega, by simp only; omega⟩
          · rw [List.pairwise_append]
            refine ⟨hW.up, by simp, fun a ha b hb => ?_⟩
            rcases List.mem_singleton.mp hb with rfl
            exact hWi a ha
          · intro w hw
            rcases List.mem_append.mp hw with hw | hw
            · exact hWi w hw
            · rcases List.mem_singleton.mp hw with rfl
              exact Nat.le_refl _
          · rw [List.length_append, List.length_singleton]; omega
        | false =>
          rw [ifp_f]
          exact ⟨W, _, rfl, a6, hW, hWi, by omega, W6, e6⟩
      · clear hW hWi hWl W5 e5 a5 hd
        rintro δ M5 ⟨W, x6, rfl, a5, hW, hWi, hWl, W5, e5⟩
        rw [Nat.zero_add, hjl] at hWl
        exact ⟨W, _, _, rfl, a5, hW, fun w hw => Nat.lt_succ_of_le (hWi w hw), by omega, by omega, W5, e5⟩
    · clear a4 W4 e4
      rintro δ M5 ⟨W, x5, x6, rfl, a5, hW, hWi, hWl, hin, W5, e5⟩
      exact hK _ _ ⟨W, _, _, rfl, a5, hW, by rw [Nat.zero_add, hnl] at hWl; omega, W5, e5⟩
  clear a4 W4 e4
  rintro f M4 ⟨W, x5, x6, rfl, a4, hW, hWl, W4, e4⟩
  dsimp only
  refine seq_cut fun K hK => ?_; walk_at "okw"
  subst hK; dsimp only
  refine ⟨Nat.zero_le _, ?_⟩
  have l4 := e4.len
  have W5 := W4.pe (Pe.app (l := [MO.lst []]))
  have e5 := e4.trans (Pe.app (M := M4) (l := [MO.lst []])).ext (k := k) (c := c)
  have a5 : (M4 ++ [MO.lst []])[M4.length]? = some (.lst (([] : List II).map pD)) := by simp
  have b5 : (M4 ++ [MO.lst []])[l]? = some (.lst (W.map lagD)) := Pe.app.at a4
  have hmk : M4.length ≠ k := Ne.symm (Nat.ne_of_lt W4.lt.1)
  have hmc : M4.length ≠ c := Ne.symm (Nat.ne_of_lt W4.lt.2)
  have hml : M4.length ≠ l := Ne.symm (Nat.ne_of_lt (List.getElem?_eq_some_iff.mp a4).1)
  generalize M4 ++ [MO.lst []] = M5 at W5 e5 a5 b5 ⊢
  generalize M4.length = m at a5 hmk hmc hml l4 ⊢
  clear W4 e4 a4
  refine seq_mid (Q0 := fun f M' => ∃ (S : List II) (x5 x6 x8 x9 x10 : Option D), f = .nx [some (.obj k), some (.int g), some (.int (n : Nat)), some (.int (1 + v3)), some (.obj l), x5, x6, some (.obj m), x8, x9, x10] ∧ M'[m]? = some (.lst (S.map pD)) ∧ S.length = n ∧ M'[l]? = some (.lst (W.map lagD)) ∧ Well M' k c ∧ Ext k c M M') (fun K hK => ?_) ?_
  · walk_at "okw"
    refine ⟨by unfold okR; simp; omega, ?_⟩
    have hnl : (rngI 0 (n : Int)).items.length = n := by simp [rngI]
    refine ok_loop (fun i δ M' => ∃ (S : List II) (x5 x6 x8 x9 x10 : Option D), δ = [some (.obj k), some (.int g), some (.int (n : Nat)), some (.int (1 + v3)), some (.obj l), x5, x6, some (.obj m), x8, x9, x10] ∧ M'[m]? = some (.lst (S.map pD)) ∧ S.length = i ∧ M'[l]? = some (.lst (W.map lagD)) ∧ Well M' k c ∧ Ext k c M M') _ 0 _ _ ⟨[], _, _, _, _, _, rfl, a5, rfl, b5, W5, e5⟩ (fun _ _ _ _ => guard_nil) ?_ ?_
    · clear a5 W5 e5 b5
      rintro i d δ M5 hd ⟨S, x5, x6, x8, x9, x10, rfl, a5, hS, b5, W5, e5⟩
      rw [Nat.zero_add] at hS ⊢
      have hi : i < n := by have := (List.getElem?_eq_some_iff.mp hd).1; rw [hnl] at this; exact this
      refine ⟨_, rfl, ?_⟩
      dsimp only [setAll, List.set]
      refine seq_cut fun K hK => ?_; walk_at "okw"
      refine (draw_ok W5 (by decide) (by decide)).imp ?_
      rintro _ M6 ⟨⟨v6, rfl, v60, v61⟩, W6, e6⟩
      walk_at "okw"
      refine ⟨by decide, ?_⟩
      have W7 := W6.pe (Pe.app (l := [MO.lst [.int 0, .int 0, .int (v6 - 5)]]))
      have e7 := e6.trans (Pe.app (M := M6) (l := [MO.lst [.int 0, .int 0, .int (v6 - 5)]])).ext (k := k) (c := c)
      have n6k : M6.length ≠ k := Ne.symm (Nat.ne_of_lt W6.lt.1)
      have n6c : M6.length ≠ c := Ne.symm (Nat.ne_of_lt W6.lt.2)
      have q7 : (M6 ++ [MO.lst [D.int 0, .int 0, .int (v6 - 5)]])[M6.length]? = some (.lst [.int 0, .int 0, .int (v6 - 5)]) := at_end
      generalize M6 ++ [MO.lst [D.int 0, .int 0, .int (v6 - 5)]] = M7 at W7 e7 q7 ⊢
      refine (draw_ok W7 (by decide) (by decide)).imp ?_
      rintro _ M8 ⟨⟨v8, rfl, v80, v81⟩, W8, e8⟩
      have q8 := e8.at q7 n6k n6c
      replace e8 := e7.trans e8
      refine ok_pick q8 v80 (by simpa using v81) fun d9 hd9 => ?_
      have hd9 : ∃ first : Int, d9 = .int first := by
        simp only [List.mem_cons, List.not_mem_nil, or_false] at hd9
        rcases hd9 with rfl | rfl | rfl <;> exact ⟨_, rfl⟩
      obtain ⟨first, rfl⟩ := hd9
      subst hK; dsimp only
      clear W6 e6 W7 e7 q7 q8 n6k n6c
      refine seq_cut fun K hK => ?_; walk_at "okw"
      refine (draw_ok W8 (by decide) (by decide)).imp ?_
      rintro _ M9 ⟨⟨v9, rfl, v90, v91⟩, W9, e9⟩
      replace e9 := e8.trans e9
      clear W8 e8
      walk_at "okw"
      refine ⟨by decide, ?_⟩
      have W10 := W9.pe (Pe.app (l := [MO.lst [.int 40, .int 400]]))
      have e10 := e9.trans (Pe.app (M := M9) (l := [MO.lst [.int 40, .int 400]])).ext (k := k) (c := c)
      refine ok_pick at_end hg.1 (by simpa using hg.2) fun d10 hd10 => ?_
      have hd10 : ∃ far : Int, d10 = .int far := by
        simp only [List.mem_cons, List.not_mem_nil, or_false] at hd10
        rcases hd10 with rfl | rfl <;> exact ⟨_, rfl⟩
      obtain ⟨far, rfl⟩ := hd10
      generalize M9 ++ [MO.lst [D.int 40, .int 400]] = M10 at W10 e10 ⊢
      clear W9 e9
      refine (draw_ok W10 (by decide) (by decide)).imp ?_
      rintro _ M11 ⟨⟨v11', rfl, v110, v111⟩, W11, e11⟩
      replace e11 := e10.trans e11
      clear W10 e10
      walk_at "okw"
      refine ⟨by decide, ?_⟩
      have W12 := W11.pe (Pe.app (l := [MO.lst [.int (first + v9 - 1), .int (far - v11')]]))
      have e12 := e11.trans (Pe.app (M := M11) (l := [MO.lst [.int (first + v9 - 1), .int (far - v11')]])).ext (k := k) (c := c)
      have q12 : (M11 ++ [MO.lst [D.int (first + v9 - 1), .int (far - v11')]])[M11.length]? = some (.lst [.int (first + v9 - 1), .int (far - v11')]) := at_end
      have nk : M11.length ≠ k := Ne.symm (Nat.ne_of_lt W11.lt.1)
      have nc : M11.length ≠ c := Ne.symm (Nat.ne_of_lt W11.lt.2)
      generalize M11 ++ [MO.lst [D.int (first + v9 - 1), .int (far - v11')]] = M12 at W12 e12 q12 ⊢
      generalize M11.length = r at q12 nk nc ⊢
      clear W11 e11
      subst hK; dsimp only
      walk_at "okw"
      refine ⟨listAt (e12.at a5 hmk hmc), ?_⟩
      refine ⟨by decide, ok_pick at_end hg.1 (by simpa using hg.2) fun d13 hd13 => ?_⟩
      have hd13 : ∃ h : Int, d13 = .int h ∧ 0 < h ∧ h < 100 := by
        simp only [List.mem_cons, List.not_mem_nil, or_false] at hd13
        rcases hd13 with rfl | rfl <;> exact ⟨_, rfl, by decide, by decide⟩
      obtain ⟨h13, rfl, h130, h131⟩ := hd13
      have W13 := W12.pe (Pe.app (l := [MO.lst [.int 2, .int 30]]))
      have e13 := e12.trans (Pe.app (M := M12) (l := [MO.lst [.int 2, .int 30]])).ext (k := k) (c := c)
      have q13 : (M12 ++ [MO.lst [D.int 2, .int 30]])[r]? = some (.lst [.int (first + v9 - 1), .int (far - v11')]) := Pe.app.at q12
      generalize M12 ++ [MO.lst [D.int 2, .int 30]] = M13 at W13 e13 q13 ⊢
      clear W12 e12 q12
      refine (draw_ok W13 h130 (by omega)).imp ?_
      rintro _ M14 ⟨⟨v14, rfl, v140, v141⟩, W14, e14⟩
      have q14 := e14.at q13 nk nc
      replace e14 := e13.trans e14
      walk_at "okw"
      refine ok_pick q14 bit.1 (show _ < (2 : Int) from bit.2) fun d15 hd15 => ?_
      have hd15 : ∃ last : Int, d15 = .int last := by
        simp only [List.mem_cons, List.not_mem_nil, or_false] at hd15
        rcases hd15 with rfl | rfl <;> exact ⟨_, rfl⟩
      obtain ⟨last, rfl⟩ := hd15
      refine ⟨by decide, ?_⟩
      have a14 := e14.at a5 hmk hmc
      have b14 := e14.at b5 hlk hlc
      rw [ok_app a14 (by rw [List.length_map]; exact Nat.lt_of_le_of_lt (show S.length ≤ 1000 by omega) (by decide))]
      refine ⟨S ++ [(first, last)], _, _, _, _, _, rfl, ?_, ?_, ?_, W14.set hmk hmc, ext_high (e5.trans e14) l4⟩
      · rw [at_set a14]; simp [pD]
      · rw [List.length_append, List.length_singleton, hS]
      · rw [List.getElem?_set_ne hml]; exact b14
    · clear a5 W5 e5 b5
      rintro δ M5 ⟨S, x5, x6, x8, x9, x10, rfl, a5, hS, b5, W5, e5⟩
      rw [Nat.zero_add, hnl] at hS
      exact hK _ _ ⟨S, _, _, _, _, _, rfl, a5, hS, b5, W5, e5⟩
  clear a5 W5 e5 b5
  rintro f M5 ⟨S, x5, x6, x8, x9, x10, rfl, a5, hS, b5, W5, e5⟩
  dsimp only
  walk_at "okw"
  rw [show fTuple [.obj l] M5 = some (.tup (W.map lagD), M5) by simp only [fTuple, asSeq, asList, b5, Option.map_some], ok_some]
  rw [show fTuple [.obj m] M5 = some (.tup (S.map pD), M5) by simp only [fTuple, asSeq, asList, a5, Option.map_some], ok_some]
  exact ⟨by decide, n, W, S, rfl, n1, n24, hW, hS, W5, e5⟩
end
section
theorem iter_same {n : Nat} {W : List Lag} {S : List II} (hW : Lags n W) (h1 : 1 ≤ n) : iterF (F0 S) W n = passF (F0 S) W ∧ iterL (L0 S) W n = lastL (L0 S) W := by
  refine ⟨?_, iterL_eq hW⟩
  obtain ⟨m, rfl⟩ : ∃ m, n = m + 1 := ⟨n - 1, by omega⟩
  exact iterF_eq hW m
theorem F0_zip {n : Nat} {F L : Vec} {k : Nat} (h : k < n) : F0 (List.zip (vec n F) (vec n L)) k = F k := by
  show ((List.zip (vec n F) (vec n L)).map (·.1)).getD k 0 = F k
  rw [List.map_fst_zip (by rw [vec_len, vec_len]; omega), List.getD_eq_getElem?_getD, vec_get h]; rfl
theorem L0_zip {n : Nat} {F L : Vec} {k : Nat} (h : k < n) : L0 (List.zip (vec n F) (vec n L)) k = L k := by
  show ((List.zip (vec n F) (vec n L)).map (·.2)).getD k 0 = L k
  rw [List.map_snd_zip (by rw [vec_len, vec_len]; omega), List.getD_eq_getElem?_getD, vec_get h]; rfl
theorem vec_congr {n : Nat} {F G : Vec} (h : ∀ k, k < n → F k = G k) : vec n F = vec n G := List.map_congr_left fun k hk => h k (List.mem_range.mp hk)
theorem FIN_vec {n : Nat} {F L : Vec} : FIN n F L = (List.zip (vec n F) (vec n L)).any fun p => decide (p.1 > p.2) := by
  unfold FIN vec
  rw [List.zip_map', List.any_map]; rfl
/-- narrowed once more -/
theorem again_ok {M : Mem} {n : Nat} {W : List Lag} {F L : Vec} (hW : Lags n W) (hn : n ≤ 1000) (hF : FOk F W) (hL : LOk L W) (hE : FIN n F L = false) :
    Ok (f_narrowed [.tup (W.map lagD), .tup ((List.zip (vec n F) (vec n L)).map pD)] M) fun d M' => d = .tup ((List.zip (vec n F) (vec n L)).map pD) ∧ Pe M M' := by
  refine (narrowed_ok (S := List.zip (vec n F) (vec n L)) hW (by rw [List.length_zip, vec_len, vec_len, Nat.min_self]) hn).imp ?_
  rintro d M' ⟨rfl, p⟩
  refine ⟨?_, p⟩
  have eF : passF (F0 (List.zip (vec n F) (vec n L))) W = F0 (List.zip (vec n F) (vec n L)) := passF_fix fun w hw => by
    have := hW.lt w hw
    rw [F0_zip (by omega), F0_zip (by omega)]
    exact hF w hw
  have eL : lastL (L0 (List.zip (vec n F) (vec n L))) W = L0 (List.zip (vec n F) (vec n L)) := lastL_fix fun w hw => by
    have := hW.lt w hw
    rw [L0_zip (by omega), L0_zip (by omega)]
    exact hL w hw
  have vF : vec n (F0 (List.zip (vec n F) (vec n L))) = vec n F := vec_congr fun k hk => F0_zip hk
  have vL : vec n (L0 (List.zip (vec n F) (vec n L))) = vec n L := vec_congr fun k hk => L0_zip hk
  rw [eF, eL]
  have e : FIN n (F0 (List.zip (vec n F) (vec n L))) (L0 (List.zip (vec n F) (vec n L))) = false := by
    rw [FIN_vec, vF, vL, ← FIN_vec, hE]
  rw [if_neg (by rw [e]; simp), vF, vL]
theorem pair_at {n : Nat} {F L : Vec} {k : Nat} (h : k < n) : ((List.zip (vec n F) (vec n L)).map pD)[k]? = some (pD (F k, L k)) := by
  rw [List.getElem?_map, (List.getElem?_zip_eq_some (z := (F k, L k))).mpr ⟨vec_get h, vec_get h⟩]; rfl
theorem ix_pair {M : Mem} {n : Nat} {F L : Vec} {k : Nat} {Q : D → Mem → Prop} (h : k < n) : Ok (ixD (.tup ((List.zip (vec n F) (vec n L)).map pD)) (.int (k : Nat)) M) Q ↔ Q (pD (F k, L k)) M := by
  have hl : ((List.zip (vec n F) (vec n L)).map pD).length = n := by rw [List.length_map, List.length_zip, vec_len, vec_len, Nat.min_self]
  have e : ixD (.tup ((List.zip (vec n F) (vec n L)).map pD)) (.int (k : Nat)) M = some (pD (F k, L k), M) := by
    show (atI ((List.zip (vec n F) (vec n L)).map pD) (k : Nat)).map (fun d => (d, M)) = _
    rw [atI_nat (by rw [pair_at h])]; rfl
  rw [e, ok_some]
theorem law_all : ∀ ns : List Int, ns.length ≤ 63 → Ok (f_law [.rol (ns.map D.int)] []) fun d _ => d = .bl true := by
  intro ns hns
  unfold f_law; rw [ok_fn]; unfold m_law
  walk_at "slots"
  refine seq_cut fun K hK => ?_
  walk_at "okw"
  refine (deck_ok hns).imp ?_
  rintro _ M0 ⟨k, c, rfl, W0⟩
  subst hK; dsimp only
  refine seq_mid (Q0 := fun f M' => ∃ x2 x3 x4 x5 x6 x7 x8 x9, f = .nx [some (.rol (ns.map D.int)), some (.obj k), x2, x3, x4, x5, x6, x7, x8, x9]) (fun K hK => ?_) ?_
  · walk_at "okw"
    refine ⟨by decide, ?_⟩
    refine ok_loop (fun i δ M' => ∃ x2 x3 x4 x5 x6 x7 x8 x9, δ = [some (.rol (ns.map D.int)), some (.obj k), x2, x3, x4, x5, x6, x7, x8, x9] ∧ Well M' k c) _ 0 _ _ ⟨_, _, _, _, _, _, _, _, rfl, W0⟩ (fun _ _ _ _ => guard_nil) ?_ ?_
    · clear W0
      rintro i d δ M1 hd ⟨x2, x3, x4, x5, x6, x7, x8, x9, rfl, W1⟩
      refine ⟨_, rfl, ?_⟩
      dsimp only [setAll, List.set]
      refine seq_cut fun K hK => ?_; walk_at "okw"
      refine (drawn_ok W1).imp ?_
      rintro _ M2 ⟨n, W, S, rfl, n1, n24, hW, hS, W2, e2⟩
      have hn : n ≤ 1000 := by omega
      refine ⟨_, rfl, ?_⟩
      subst hK; dsimp only
      refine seq_cut fun K hK => ?_; walk_at "okw"
      refine (law_narrowed_ok hW hS hn).imp ?_
      rintro _ M3 ⟨z, rfl, z3, hzl, p3⟩
      have W3 := W2.pe p3
      obtain ⟨i1, i2⟩ := iter_same (S := S) hW n1
      rw [i1, i2] at z3
      subst hK; dsimp only
      refine seq_cut fun K hK => ?_; walk_at "okw"
      refine (narrowed_ok hW hS hn).imp ?_
      rintro _ M4 ⟨rfl, p4⟩
      have W4 := W3.pe p4
      have z4 := p4.at z3
      subst hK; dsimp only
      generalize hF : passF (F0 S) W = F at z4 ⊢
      generalize hL : lastL (L0 S) W = L at z4 ⊢
      have fF : FOk F W := hF ▸ passF_ok hW
      have fL : LOk L W := hL ▸ lastL_ok hW
      walk_at "okw"
      refine (empty_ok z4 hn).imp ?_
      rintro _ M5 ⟨rfl, p5⟩
      have W5 := W4.pe p5
      have z5 := p5.at z4
      refine ⟨_, rfl, ?_⟩
      cases hE : FIN n F L with
      | true =>
        rw [ifp_t, if_pos rfl]
        exact ⟨_, _, rfl, _, rfl, _, _, _, _, _, _, _, _, rfl, W5⟩
      | false =>
        rw [ifp_f, if_neg (by simp)]
        refine (told_ok z5 hn).imp ?_
        rintro _ M6 ⟨rfl, p6⟩
        have W6 := W5.pe p6
        have z6 := p6.at z5
        refine ⟨true, rfl, ?_⟩
        rw [show (!true) = false from rfl, ifp_f]
        refine (again_ok hW hn fF fL hE).imp ?_
        rintro _ M7 ⟨rfl, p7⟩
        have W7 := W6.pe p7
        have z7 := p7.at z6
        refine (told_ok z7 hn).imp ?_
        rintro _ M8 ⟨rfl, p8⟩
        have W8 := W7.pe p8
        refine ⟨true, rfl, ?_⟩
        rw [show (!true) = false from rfl, ifp_f]
        refine ok_loop (fun i δ M' => ∃ x7 x8 x9, δ = [some (.rol (ns.map D.int)), some (.obj k), some d, some (.tup (W.map lagD)), some (.tup (S.map pD)), some (.obj z), some (.tup ((List.zip (vec n F) (vec n L)).map pD)), x7, x8, x9] ∧ M' = M8) _ 0 _ _ ⟨_, _, _, rfl, rfl⟩ (fun _ _ _ _ => guard_nil) ?_ ?_
        · rintro i e δ M9 he ⟨x7, x8, x9, rfl, rfl⟩
          rw [List.getElem?_map, Option.map_eq_some_iff] at he
          obtain ⟨w, hw, rfl⟩ := he
          have hwm := List.mem_of_getElem? hw
          have hwl := hW.lt w hwm
          refine ⟨_, rfl, ?_⟩
          dsimp only [setAll, List.set]
          walk_at "okw"
          have hF := fF w hwm
          have hL := fL w hwm
          have ew : ∀ a b : Int, ltD (.int a) (.int b) M9 = some (.bl (decide (a < b)), M9) := fun _ _ => rfl
          rw [ix_pair hwl.2, show ∀ p, ixD (pD p) (.int 0) M9 = some (.int p.1, M9) from fun _ => rfl, ok_some, ix_pair (Nat.lt_trans hwl.1 hwl.2), show ∀ p, ixD (pD p) (.int 0) M9 = some (.int p.1, M9) from fun _ => rfl, ok_some]
          rw [show ∀ a b : Int, addD (.int a) (.int b) M9 = some (.int (a + b), M9) from fun _ _ => rfl, ok_some, ew, ok_some]
          refine ⟨_, rfl, ?_⟩
          rw [decide_eq_false (by simp only; omega), ifp_f]
          rw [ix_pair hwl.2, show ∀ p, ixD (pD p) (.int 1) M9 = some (.int p.2, M9) from fun _ => rfl, ok_some, ix_pair (Nat.lt_trans hwl.1 hwl.2), show ∀ p, ixD (pD p) (.int 1) M9 = some (.int p.2, M9) from fun _ => rfl, ok_some]
          rw [show ∀ a b : Int, addD (.int a) (.int b) M9 = some (.int (a + b), M9) from fun _ _ => rfl, ok_some, ew, ok_some]
          refine ⟨_, rfl, ?_⟩
          rw [decide_eq_false (by simp only; omega), ifp_f]
          exact ⟨_, _, _, rfl, rfl⟩
        · rintro δ M9 ⟨x7, x8, x9, rfl, rfl⟩
          exact ⟨_, _, _, _, _, _, _, _, rfl, W8⟩
    · rintro δ M1 ⟨x2, x3, x4, x5, x6, x7, x8, x9, rfl, W1⟩
      exact hK _ _ ⟨_, _, _, _, _, _, _, _, rfl⟩
  rintro f M1 ⟨x2, x3, x4, x5, x6, x7, x8, x9, rfl⟩
  dsimp only
  walk_at "okw"
  refine ⟨Nat.zero_le _, Nat.zero_le _, ?_⟩
  refine (narrowed_ok (M := M1) (n := 0) (W := []) (S := []) ⟨by simp, .nil⟩ rfl (by decide)).imp ?_
  rintro _ M2 ⟨rfl, p2⟩
  exact ⟨Nat.zero_le _, _, _, rfl, rfl⟩
theorem law_ok (ns : List Int) (h : ns.length ≤ 63) : ∃ M', f_law [.rol (ns.map D.int)] [] = some (.bl true, M') := by
  obtain ⟨d, M', e, rfl⟩ := law_all ns h
  exact ⟨M', e⟩
end
end Lk33
set_option Elab.async false
set_option linter.all false
set_option maxRecDepth 100000
set_option maxHeartbeats 4000000
namespace Lk33
open PySem PySem.Spec L2 Mir
def top (i : Nat) : Stmt := PySem.Challenge.pw_widerows_k33_windows_narrowed.main.body.getD i (.Pass ⟨0, 0, 0, 0⟩)
section
variable {P : Program} {w : World} {K : PySem.W.Frag} {mg : Str → Option Value} {base : Heap}
abbrev s_narrowed : Stmt := top 1
theorem sc_narrowed : FnScope ["waits", "windows", "firsts", "lasts", "i", "j", "many", "first", "last"] ["waits", "windows"] (defScope s_narrowed) := ⟨rfl, rfl, rfl, by decide +kernel, rfl, by decide +kernel, by decide +kernel⟩
theorem ok_narrowed {a : Addr} {fd : FuncData} (F : Fun K "narrowed" "narrowed" s_narrowed a fd) (hC : CodeT K base fd.code) (hB : BltAt base mg) (z_any : mg "any" = none) (z_max : mg "max" = none) (z_min : mg "min" = none) (z_tuple : mg "tuple" = none) (z_zip : mg "zip" = none) : FnOk P w K mg base CX0 2 a fd ["waits", "windows"] (spM K 2 f_narrowed) :=
  fn_okG F hC sc_narrowed fun cdv A outer s H E hr hcode => (@ms_cons _ _ _ _ _ (@ms_setLc _ _ _ (2) _ _ _ _ _ _ ([("first", 7), ("last", 8)]) _ _ ((gMany [7, 8])) _ _ (by rfl) sc_narrowed.nd rfl rfl (sw_true rfl rfl rfl (by decide +kernel)) (@mi_any _ _ _ _ (@mv _ _ 1 _ (by rfl) (by first | exact Or.inl rfl | exact Or.inr (Or.inl rfl) | exact Or.inr (Or.inr rfl)) (by decide) (by decide))) (blkOk_by (own := [("first", 7), ("last", 8)]) (N := ["waits", "windows", "firsts", "lasts", "i", "j", "many", "first", "last"]) (sc := defScope s_narrowed) (by decide +kernel)) (fun _ _ _ _ _ => (@mg_many _ _ ([7, 8]) (@pg_tup _ _ _ _ _ _ rfl (@pgs_cons _ _ _ _ _ (@pg_name _ _ (7) _ sc_narrowed.nd rfl (by first | exact Or.inl rfl | exact Or.inr rfl) (by first | exact .inl rfl | exact .inr rfl | assumption)) (@pgs_cons _ _ _ _ _ (@pg_name _ _ (8) _ sc_narrowed.nd rfl (by first | exact Or.inl rfl | exact Or.inr rfl) (by first | exact .inl rfl | exact .inr rfl | assumption)) pgs_nil (by rfl)) (by rfl)) (by rfl) (by rfl)) _ (by decide))) (fun _ _ _ _ _ => mts_nil) (fun _ _ _ _ _ => (@mv _ _ 7 _ (by rfl) (by first | exact Or.inl rfl | exact Or.inr (Or.inl rfl) | exact Or.inr (Or.inr rfl)) (by decide) (by decide))) (by intro _; rfl)) (@ms_cons _ _ _ _ _ (@ms_setLc _ _ _ (3) _ _ _ _ _ _ ([("first", 7), ("last", 8)]) _ _ ((gMany [7, 8])) _ _ (by rfl) sc_narrowed.nd rfl rfl (sw_true rfl rfl rfl (by decide +kernel)) (@mi_any _ _ _ _ (@mv _ _ 1 _ (by rfl) (by first | exact Or.inl rfl | exact Or.inr (Or.inl rfl) | exact Or.inr (Or.inr rfl)) (by decide) (by decide))) (blkOk_by (own := [("first", 7), ("last", 8)]) (N := ["waits", "windows", "firsts", "lasts", "i", "j", "many", "first", "last"]) (sc := defScope s_narrowed) (by decide +kernel)) (fun _ _ _ _ _ => (@mg_many _ _ ([7, 8]) (@pg_tup _ _ _ _ _ _ rfl (@pgs_cons _ _ _ _ _ (@pg_name _ _ (7) _ sc_narrowed.nd rfl (by first | exact Or.inl rfl | exact Or.inr rfl) (by first | exact .inl rfl | exact .inr rfl | assumption)) (@pgs_cons _ _ _ _ _ (@pg_name _ _ (8) _ sc_narrowed.nd rfl (by first | exact Or.inl rfl | exact Or.inr rfl) (by first | exact .inl rfl | exact .inr rfl | assumption)) pgs_nil (by rfl)) (by rfl)) (by rfl) (by rfl)) _ (by decide))) (fun _ _ _ _ _ => mts_nil) (fun _ _ _ _ _ => (@mv _ _ 8 _ (by rfl) (by first | exact Or.inl rfl | exact Or.inr (Or.inl rfl) | exact Or.inr (Or.inr rfl)) (by decide) (by decide))) (by intro _; rfl)) (@ms_cons _ _ _ _ _ (@ms_for _ _ _ _ _ _ _ ([4, 5, 6]) _ PassesOwn.never rfl (@mi_any _ _ _ _ (@mv _ _ 0 _ (by rfl) (by first | exact Or.inl rfl | exact Or.inr (Or.inl rfl) | exact Or.inr (Or.inr rfl)) (by decide) (by decide))) (@mg_many _ _ ([4, 5, 6]) (@pg_tup _ _ _ _ _ _ rfl (@pgs_cons _ _ _ _ _ (@pg_name _ _ (4) _ sc_narrowed.nd rfl (by first | exact Or.inl rfl | exact Or.inr rfl) (by first | exact .inl rfl | exact .inr rfl | assumption)) (@pgs_cons _ _ _ _ _ (@pg_name _ _ (5) _ sc_narrowed.nd rfl (by first | exact Or.inl rfl | exact Or.inr rfl) (by first | exact .inl rfl | exact .inr rfl | assumption)) (@pgs_cons _ _ _ _ _ (@pg_name _ _ (6) _ sc_narrowed.nd rfl (by first | exact Or.inl rfl | exact Or.inr rfl) (by first | exact .inl rfl | exact .inr rfl | assumption)) pgs_nil (by rfl)) (by rfl)) (by rfl)) (by rfl) (by rfl)) _ (by decide)) (@ms_one _ _ _ (@ms_sub _ _ _ _ _ (@ps_asg _ _ _ _ _ _ (@me_callB _ _ _ _ _ _ _ _ _ _ (call_max2 rfl) max2_m (by rfl) z_max boot_max (@ma_cons _ _ _ _ _ (@me_ix _ _ _ _ _ _ (hu_of hr) (@mv _ _ 2 _ (by rfl) (by first | exact Or.inl rfl | exact Or.inr (Or.inl rfl) | exact Or.inr (Or.inr rfl)) (by decide) (by decide)) (@mv _ _ 5 _ (by rfl) (by first | exact Or.inl rfl | exact Or.inr (Or.inl rfl) | exact Or.inr (Or.inr rfl)) (by decide) (by decide)) (fun _ _ => rfl)) (@ma_cons _ _ _ _ _ (@me_add _ _ _ _ _ _ (@me_ix _ _ _ _ _ _ (hu_of hr) (@mv _ _ 2 _ (by rfl) (by first | exact Or.inl rfl | exact Or.inr (Or.inl rfl) | exact Or.inr (Or.inr rfl)) (by decide) (by decide)) (@mv _ _ 4 _ (by rfl) (by first | exact Or.inl rfl | exact Or.inr (Or.inl rfl) | exact Or.inr (Or.inr rfl)) (by decide) (by decide)) (fun _ _ => rfl)) (@mv _ _ 6 _ (by rfl) (by first | exact Or.inl rfl | exact Or.inr (Or.inl rfl) | exact Or.inr (Or.inr rfl)) (by decide) (by decide))) ma_nil (by rfl)) (by rfl)) (by decide) (by decide) (by rfl) (by rfl)) (@pg_sub _ _ _ _ _ _ _ (@mv _ _ 2 _ (by rfl) (by first | exact Or.inl rfl | exact Or.inr (Or.inl rfl) | exact Or.inr (Or.inr rfl)) (by decide) (by decide)) (@mv _ _ 5 _ (by rfl) (by first | exact Or.inl rfl | exact Or.inr (Or.inl rfl) | exact Or.inr (Or.inr rfl)) (by decide) (by decide)) (set_any (hu_of hr)) (by intro _; rfl)) (by rfl) (by rfl) (by rfl)))) (by intro _; rfl)) (@ms_cons _ _ _ _ _ (@ms_for _ _ _ _ _ _ _ ([4, 5, 6]) _ PassesOwn.never rfl (@mi_any _ _ _ _ (@me_rev _ _ _ _ _ _ _ (@mv _ _ 0 _ (by rfl) (by first | exact Or.inl rfl | exact Or.inr (Or.inl rfl) | exact Or.inr (Or.inr rfl)) (by decide) (by decide)))) (@mg_many _ _ ([4, 5, 6]) (@pg_tup _ _ _ _ _ _ rfl (@pgs_cons _ _ _ _ _ (@pg_name _ _ (4) _ sc_narrowed.nd rfl (by first | exact Or.inl rfl | exact Or.inr rfl) (by first | exact .inl rfl | exact .inr rfl | assumption)) (@pgs_cons _ _ _ _ _ (@pg_name _ _ (5) _ sc_narrowed.nd rfl (by first | exact Or.inl rfl | exact Or.inr rfl) (by first | exact .inl rfl | exact .inr rfl | assumption)) (@pgs_cons _ _ _ _ _ (@pg_name _ _ (6) _ sc_narrowed.nd rfl (by first | exact Or.inl rfl | exact Or.inr rfl) (by first | exact .inl rfl | exact .inr rfl | assumption)) pgs_nil (by rfl)) (by rfl)) (by rfl)) (by rfl) (by rfl)) _ (by decide)) (@ms_one _ _ _ (@ms_sub _ _ _ _ _ (@ps_asg _ _ _ _ _ _ (@me_callB _ _ _ _ _ _ _ _ _ _ (call_min2 rfl) min2_m (by rfl) z_min boot_min (@ma_cons _ _ _ _ _ (@me_ix _ _ _ _ _ _ (hu_of hr) (@mv _ _ 3 _ (by rfl) (by first | exact Or.inl rfl | exact Or.inr (Or.inl rfl) | exact Or.inr (Or.inr rfl)) (by decide) (by decide)) (@mv _ _ 4 _ (by rfl) (by first | exact Or.inl rfl | exact Or.inr (Or.inl rfl) | exact Or.inr (Or.inr rfl)) (by decide) (by decide)) (fun _ _ => rfl)) (@ma_cons _ _ _ _ _ (@me_sub _ _ _ _ _ _ (@me_ix _ _ _ _ _ _ (hu_of hr) (@mv _ _ 3 _ (by rfl) (by first | exact Or.inl rfl | exact Or.inr (Or.inl rfl) | exact Or.inr (Or.inr rfl)) (by decide) (by decide)) (@mv _ _ 5 _ (by rfl) (by first | exact Or.inl rfl | exact Or.inr (Or.inl rfl) | exact Or.inr (Or.inr rfl)) (by decide) (by decide)) (fun _ _ => rfl)) (@mv _ _ 6 _ (by rfl) (by first | exact Or.inl rfl | exact Or.inr (Or.inl rfl) | exact Or.inr (Or.inr rfl)) (by decide) (by decide))) ma_nil (by rfl)) (by rfl)) (by decide) (by decide) (by rfl) (by rfl)) (@pg_sub _ _ _ _ _ _ _ (@mv _ _ 3 _ (by rfl) (by first | exact Or.inl rfl | exact Or.inr (Or.inl rfl) | exact Or.inr (Or.inr rfl)) (by decide) (by decide)) (@mv _ _ 4 _ (by rfl) (by first | exact Or.inl rfl | exact Or.inr (Or.inl rfl) | exact Or.inr (Or.inr rfl)) (by decide) (by decide)) (set_any (hu_of hr)) (by intro _; rfl)) (by rfl) (by rfl) (by rfl)))) (by intro _; rfl)) (@ms_cons _ _ _ _ _ (@ms_if _ _ _ _ _ _ _ _ (@mt_truth _ _ _ (@me_any _ _ _ _ _ _ _ _ ([("first", 7), ("last", 8)]) _ _ _ ((gMany [7, 8])) _ _ (by rfl) sc_narrowed.nd hr hcode hB (by rfl) z_any (@mi_zip _ _ _ _ _ _ _ _ _ rfl z_zip (@ma_cons _ _ _ _ _ (@mv _ _ 2 _ (by rfl) (by first | exact Or.inl rfl | exact Or.inr (Or.inl rfl) | exact Or.inr (Or.inr rfl)) (by decide) (by decide)) (@ma_cons _ _ _ _ _ (@mv _ _ 3 _ (by rfl) (by first | exact Or.inl rfl | exact Or.inr (Or.inl rfl) | exact Or.inr (Or.inr rfl)) (by decide) (by decide)) ma_nil (by rfl)) (by rfl)) (by rfl) (by rfl)) (genOk_by (own := [("first", 7), ("last", 8)]) (N := ["waits", "windows", "firsts", "lasts", "i", "j", "many", "first", "last"]) (sc := defScope s_narrowed) (by decide +kernel) (by decide +kernel) (by decide +kernel) (by rfl)) (fun _ _ _ _ _ _ _ hr => (@mg_many _ _ ([7, 8]) (@pg_tup _ _ _ _ _ _ rfl (@pgs_cons _ _ _ _ _ (@pg_name _ _ (7) _ sc_narrowed.nd rfl (by first | exact Or.inl rfl | exact Or.inr rfl) (by first | exact .inl rfl | exact .inr rfl | assumption)) (@pgs_cons _ _ _ _ _ (@pg_name _ _ (8) _ sc_narrowed.nd rfl (by first | exact Or.inl rfl | exact Or.inr rfl) (by first | exact .inl rfl | exact .inr rfl | assumption)) pgs_nil (by rfl)) (by rfl)) (by rfl) (by rfl)) _ (by decide))) (fun _ _ _ _ _ _ _ hr => mts_nil) (fun _ _ _ _ _ _ _ hr => (@me_gt _ _ _ _ _ _ (@mv _ _ 7 _ (by rfl) (by first | exact Or.inl rfl | exact Or.inr (Or.inl rfl) | exact Or.inr (Or.inr rfl)) (by decide) (by decide)) (@mv _ _ 8 _ (by rfl) (by first | exact Or.inl rfl | exact Or.inr (Or.inl rfl) | exact Or.inr (Or.inr rfl)) (by decide) (by decide)))) (by intro _; rfl)) (by intro _; rfl)) (@ms_one _ _ _ (@ms_ret _ _ _ _ me_non)) ms_nil) (@ms_one _ _ _ (@ms_ret _ _ _ _ (me_zip_val true (by rfl) (by rfl) (by rfl) z_tuple z_zip (@ma_cons _ _ _ _ _ (@mv _ _ 2 _ (by rfl) (by first | exact Or.inl rfl | exact Or.inr (Or.inl rfl) | exact Or.inr (Or.inr rfl)) (by decide) (by decide)) (@ma_cons _ _ _ _ _ (@mv _ _ 3 _ (by rfl) (by first | exact Or.inl rfl | exact Or.inr (Or.inl rfl) | exact Or.inr (Or.inr rfl)) (by decide) (by decide)) ma_nil (by rfl)) (by rfl))))))))))
abbrev s__law_deck : Stmt := top 3
theorem sc__law_deck : FnScope ["_law_script", "_law_cells"] ["_law_script"] (defScope s__law_deck) := ⟨rfl, rfl, rfl, by decide +kernel, rfl, by decide +kernel, by decide +kernel⟩
theorem ok__law_deck {a : Addr} {fd : FuncData} (F : Fun K "_law_deck" "_law_deck" s__law_deck a fd) (z_len : mg "len" = none) (z_list : mg "list" = none) (z_sum : mg "sum" = none) : FnOk P w K mg base CX0 1 a fd ["_law_script"] (spM K 1 f__law_deck) :=
  fn_ok F sc__law_deck fun cdv A outer s H E hr => (@ms_cons _ _ _ _ _ (@ms_set _ _ _ _ (@ps_set _ _ (1) _ _ _ _ sc__law_deck.nd rfl (by first | exact Or.inl rfl | exact Or.inr rfl) (@me_callTy _ _ _ _ _ _ _ _ _ _ call_list_of list_m (by rfl) z_list boot_list (@ma_cons _ _ _ _ _ (@me_slice _ _ _ _ _ _ _ _ _ (@mv _ _ 0 _ (by rfl) (by first | exact Or.inl rfl | exact Or.inr (Or.inl rfl) | exact Or.inr (Or.inr rfl)) (by decide) (by decide)) mo_none (@mo_some _ _ _ me_int)) ma_nil (by rfl)) (by decide) (by decide) (by rfl) (by rfl)) (by rfl) (by first | exact .inl rfl | exact .inr rfl | assumption))) (@ms_one _ _ _ (@ms_ret _ _ _ _ (@me_lst _ _ _ _ (@ma_cons _ _ _ _ _ (@me_rev _ _ _ _ _ _ _ (@mv _ _ 1 _ (by rfl) (by first | exact Or.inl rfl | exact Or.inr (Or.inl rfl) | exact Or.inr (Or.inr rfl)) (by decide) (by decide))) (@ma_cons _ _ _ _ _ (@me_add _ _ _ _ _ _ (@me_mod _ _ _ _ _ _ (@me_callB _ _ _ _ _ _ _ _ _ _ (cr_sum rfl) sum_m (by rfl) z_sum boot_sum (@ma_cons _ _ _ _ _ (@mv _ _ 1 _ (by rfl) (by first | exact Or.inl rfl | exact Or.inr (Or.inl rfl) | exact Or.inr (Or.inr rfl)) (by decide) (by decide)) ma_nil (by rfl)) (by decide) (by decide) (by rfl) (by rfl)) me_int) (@me_len _ _ _ _ _ (by rfl) z_len (@ma_cons _ _ _ _ _ (@mv _ _ 1 _ (by rfl) (by first | exact Or.inl rfl | exact Or.inr (Or.inl rfl) | exact Or.inr (Or.inr rfl)) (by decide) (by decide)) ma_nil (by rfl)) (by rfl))) (@ma_cons _ _ _ _ _ me_int ma_nil (by rfl)) (by rfl)) (by rfl))))))
abbrev s__law_take : Stmt := top 4
theorem sc__law_take : FnScope ["_law_deck_here", "_law_most", "_law_number"] ["_law_deck_here", "_law_most"] (defScope s__law_take) := ⟨rfl, rfl, rfl, by decide +kernel, rfl, by decide +kernel, by decide +kernel⟩
theorem ok__law_take {a : Addr} {fd : FuncData} (F : Fun K "_law_take" "_law_take" s__law_take a fd) : FnOk P w K mg base CX0 1 a fd ["_law_deck_here", "_law_most"] (spM K 2 f__law_take) :=
  fn_ok F sc__law_take fun cdv A outer s H E hr => (@ms_cons _ _ _ _ _ (@ms_sub _ _ _ _ _ (@ps_asg _ _ _ _ _ _ (@me_add _ _ _ _ _ _ (@me_ix _ _ _ _ _ _ (hu_of hr) (@mv _ _ 0 _ (by rfl) (by first | exact Or.inl rfl | exact Or.inr (Or.inl rfl) | exact Or.inr (Or.inr rfl)) (by decide) (by decide)) me_int (fun _ _ => rfl)) me_int) (@pg_sub _ _ _ _ _ _ _ (@mv _ _ 0 _ (by rfl) (by first | exact Or.inl rfl | exact Or.inr (Or.inl rfl) | exact Or.inr (Or.inr rfl)) (by decide) (by decide)) me_int (set_any (hu_of hr)) (by intro _; rfl)) (by rfl) (by rfl) (by rfl))) (@ms_cons _ _ _ _ _ (@ms_set _ _ _ _ (@ps_set _ _ (2) _ _ _ _ sc__law_take.nd rfl (by first | exact Or.inl rfl | exact Or.inr rfl) (@me_ix _ _ _ _ _ _ (hu_of hr) (@mv _ _ 0 _ (by rfl) (by first | exact Or.inl rfl | exact Or.inr (Or.inl rfl) | exact Or.inr (Or.inr rfl)) (by decide) (by decide)) me_int (fun _ _ => rfl)) (by rfl) (by first | exact .inl rfl | exact .inr rfl | assumption))) (@ms_cons _ _ _ _ _ (@ms_if _ _ _ _ _ _ _ _ (@mt_ne _ _ _ _ _ _ hr.units (@me_ix _ _ _ _ _ _ (hu_of hr) (@mv _ _ 0 _ (by rfl) (by first | exact Or.inl rfl | exact Or.inr (Or.inl rfl) | exact Or.inr (Or.inr rfl)) (by decide) (by decide)) me_int (fun _ _ => rfl)) (@me_lst _ _ _ _ ma_nil)) (@ms_cons _ _ _ _ _ (@ms_set _ _ _ _ (@ps_set _ _ (2) _ _ _ _ sc__law_take.nd rfl (by first | exact Or.inl rfl | exact Or.inr rfl) (@me_methL0 _ _ _ _ _ _ _ _ pop_m (@pe_bm0 _ _ _ _ _ _ _ _ _ PySem.F.plainAttrs_list PySem.F.slot_list_pop PySem.F.type_list_pop mt_pop (@me_ix _ _ _ _ _ _ (hu_of hr) (@mv _ _ 0 _ (by rfl) (by first | exact Or.inl rfl | exact Or.inr (Or.inl rfl) | exact Or.inr (Or.inr rfl)) (by decide) (by decide)) me_int (fun _ _ => rfl)) (by rfl) (by rfl))) (by rfl) (by first | exact .inl rfl | exact .inr rfl | assumption))) (@ms_one _ _ _ (@ms_if _ _ _ _ _ _ _ _ (@mt_ge _ _ _ _ _ _ (@mv _ _ 2 _ (by rfl) (by first | exact Or.inl rfl | exact Or.inr (Or.inl rfl) | exact Or.inr (Or.inr rfl)) (by decide) (by decide)) (@me_pow _ _ _ _ _ _ me_int me_int)) (@ms_cons _ _ _ _ _ (@ms_expr _ _ _ _ (@me_methL _ _ _ _ _ _ _ _ _ ("list.append") _ _ append_m (@pe_bm _ _ _ _ _ _ _ _ _ _ _ _ PySem.F.plainAttrs_list PySem.F.slot_list_append PySem.F.type_list_append mt_append (@me_ix _ _ _ _ _ _ (hu_of hr) (@mv _ _ 0 _ (by rfl) (by first | exact Or.inl rfl | exact Or.inr (Or.inl rfl) | exact Or.inr (Or.inr rfl)) (by decide) (by decide)) me_int (fun _ _ => rfl)) (@ma_cons _ _ _ _ _ (@me_fdiv _ _ _ _ _ _ (@mv _ _ 2 _ (by rfl) (by first | exact Or.inl rfl | exact Or.inr (Or.inl rfl) | exact Or.inr (Or.inr rfl)) (by decide) (by decide)) (@mv _ _ 1 _ (by rfl) (by first | exact Or.inl rfl | exact Or.inr (Or.inl rfl) | exact Or.inr (Or.inr rfl)) (by decide) (by decide))) ma_nil (by rfl)) (by rfl) (by rfl) (by rfl) (by rfl) (by rfl))) (by rfl)) (@ms_one _ _ _ (@ms_ret _ _ _ _ (@me_mod _ _ _ _ _ _ (@mv _ _ 2 _ (by rfl) (by first | exact Or.inl rfl | exact Or.inr (Or.inl rfl) | exact Or.inr (Or.inr rfl)) (by decide) (by decide)) (@mv _ _ 1 _ (by rfl) (by first | exact Or.inl rfl | exact Or.inr (Or.inl rfl) | exact Or.inr (Or.inr rfl)) (by decide) (by decide)))))) ms_nil))) ms_nil) (@ms_cons _ _ _ _ _ (@ms_set _ _ _ _ (@ps_set _ _ (2) _ _ _ _ sc__law_take.nd rfl (by first | exact Or.inl rfl | exact Or.inr rfl) (@me_mod _ _ _ _ _ _ (@me_add _ _ _ _ _ _ (@me_add _ _ _ _ _ _ (@me_mul _ _ _ _ _ _ (@me_mod _ _ _ _ _ _ (@mv _ _ 2 _ (by rfl) (by first | exact Or.inl rfl | exact Or.inr (Or.inl rfl) | exact Or.inr (Or.inr rfl)) (by decide) (by decide)) me_int) me_int) (@me_mul _ _ _ _ _ _ me_int (@me_ix _ _ _ _ _ _ (hu_of hr) (@mv _ _ 0 _ (by rfl) (by first | exact Or.inl rfl | exact Or.inr (Or.inl rfl) | exact Or.inr (Or.inr rfl)) (by decide) (by decide)) me_int (fun _ _ => rfl)))) me_int) me_int) (by rfl) (by first | exact .inl rfl | exact .inr rfl | assumption))) (@ms_cons _ _ _ _ _ (@ms_set _ _ _ _ (@ps_set _ _ (2) _ _ _ _ sc__law_take.nd rfl (by first | exact Or.inl rfl | exact Or.inr rfl) (@me_mod _ _ _ _ _ _ (@me_mul _ _ _ _ _ _ (@mv _ _ 2 _ (by rfl) (by first | exact Or.inl rfl | exact Or.inr (Or.inl rfl) | exact Or.inr (Or.inr rfl)) (by decide) (by decide)) (@mv _ _ 2 _ (by rfl) (by first | exact Or.inl rfl | exact Or.inr (Or.inl rfl) | exact Or.inr (Or.inr rfl)) (by decide) (by decide))) me_int) (by rfl) (by first | exact .inl rfl | exact .inr rfl | assumption))) (@ms_one _ _ _ (@ms_ret _ _ _ _ (@me_mod _ _ _ _ _ _ (@me_fdiv _ _ _ _ _ _ (@me_mod _ _ _ _ _ _ (@me_mul _ _ _ _ _ _ (@mv _ _ 2 _ (by rfl) (by first | exact Or.inl rfl | exact Or.inr (Or.inl rfl) | exact Or.inr (Or.inr rfl)) (by decide) (by decide)) (@me_add _ _ _ _ _ _ (@mv _ _ 2 _ (by rfl) (by first | exact Or.inl rfl | exact Or.inr (Or.inl rfl) | exact Or.inr (Or.inr rfl)) (by decide) (by decide)) me_int)) me_int) me_int) (@mv _ _ 1 _ (by rfl) (by first | exact Or.inl rfl | exact Or.inr (Or.inl rfl) | exact Or.inr (Or.inr rfl)) (by decide) (by decide))))))))))
abbrev s__law_whole : Stmt := top 5
theorem sc__law_whole : FnScope ["_law_thing"] ["_law_thing"] (defScope s__law_whole) := ⟨rfl, rfl, rfl, by decide +kernel, rfl, by decide +kernel, by decide +kernel⟩
theorem ok__law_whole {a : Addr} {fd : FuncData} (F : Fun K "_law_whole" "_law_whole" s__law_whole a fd) (z_bool : mg "bool" = none) (z_int : mg "int" = none) (z_isinstance : mg "isinstance" = none) : FnOk P w K mg base CX0 1 a fd ["_law_thing"] (spM K 1 f__law_whole) :=
  fn_ok F sc__law_whole fun cdv A outer s H E hr => (@ms_one _ _ _ (@ms_ret _ _ _ _ (@me_and _ _ _ _ _ _ _ (@me_callB _ _ _ _ _ _ _ _ _ _ call_isi isi_m (by rfl) z_isinstance boot_isinst (@ma_cons _ _ _ _ _ (@mv _ _ 0 _ (by rfl) (by first | exact Or.inl rfl | exact Or.inr (Or.inl rfl) | exact Or.inr (Or.inr rfl)) (by decide) (by decide)) (@ma_cons _ _ _ _ _ (@me_type _ _ _ _ (by rfl) z_int boot_int (by decide) (by decide)) ma_nil (by rfl)) (by rfl)) (by decide) (by decide) (by rfl) (by rfl)) (@me_one _ _ _ _ _ (@me_not _ _ _ _ (@me_callB _ _ _ _ _ _ _ _ _ _ call_isi isi_m (by rfl) z_isinstance boot_isinst (@ma_cons _ _ _ _ _ (@mv _ _ 0 _ (by rfl) (by first | exact Or.inl rfl | exact Or.inr (Or.inl rfl) | exact Or.inr (Or.inr rfl)) (by decide) (by decide)) (@ma_cons _ _ _ _ _ (@me_type _ _ _ _ (by rfl) z_bool boot_bool (by decide) (by decide)) ma_nil (by rfl)) (by rfl)) (by decide) (by decide) (by rfl) (by rfl)))))))
abbrev s__law_narrowed : Stmt := top 6
theorem sc__law_narrowed : FnScope ["_law_lags", "_law_spans", "_law_firsts", "_law_lasts", "_law_turn", "_law_i", "_law_j", "_law_rows", "_law_window"] ["_law_lags", "_law_spans"] (defScope s__law_narrowed) := ⟨rfl, rfl, rfl, by decide +kernel, rfl, by decide +kernel, by decide +kernel⟩
theorem ok__law_narrowed {a : Addr} {fd : FuncData} (F : Fun K "_law_narrowed" "_law_narrowed" s__law_narrowed a fd) (z_len : mg "len" = none) (z_list : mg "list" = none) (z_max : mg "max" = none) (z_min : mg "min" = none) (z_range : mg "range" = none) (z_zip : mg "zip" = none) : FnOk P w K mg base CX0 1 a fd ["_law_lags", "_law_spans"] (spM K 2 f__law_narrowed) :=
  fn_ok F sc__law_narrowed fun cdv A outer s H E hr => (@ms_cons _ _ _ _ _ (@ms_setLc _ _ _ (2) _ _ _ _ _ _ ([("_law_window", 8)]) _ _ ((gOne 8)) _ _ (by rfl) sc__law_narrowed.nd rfl rfl (sw_true rfl rfl rfl (by decide +kernel)) (@mi_any _ _ _ _ (@mv _ _ 1 _ (by rfl) (by first | exact Or.inl rfl | exact Or.inr (Or.inl rfl) | exact Or.inr (Or.inr rfl)) (by decide) (by decide))) (blkOk_by (own := [("_law_window", 8)]) (N := ["_law_lags", "_law_spans", "_law_firsts", "_law_lasts", "_law_turn", "_law_i", "_law_j", "_law_rows", "_law_window"]) (sc := defScope s__law_narrowed) (by decide +kernel)) (fun _ _ _ _ _ => (@mg_nameV _ _ (8) _ sc__law_narrowed.nd rfl (by first | exact Or.inl rfl | exact Or.inr rfl) _ (by decide) (by first | exact .inl rfl | exact .inr rfl | assumption))) (fun _ _ _ _ _ => mts_nil) (fun _ _ _ _ _ => (@me_ix _ _ _ _ _ _ (hu_of hr) (@mv _ _ 8 _ (by rfl) (by first | exact Or.inl rfl | exact Or.inr (Or.inl rfl) | exact Or.inr (Or.inr rfl)) (by decide) (by decide)) me_int (fun _ _ => rfl))) (by intro _; rfl)) (@ms_cons _ _ _ _ _ (@ms_setLc _ _ _ (3) _ _ _ _ _ _ ([("_law_window", 8)]) _ _ ((gOne 8)) _ _ (by rfl) sc__law_narrowed.nd rfl rfl (sw_true rfl rfl rfl (by decide +kernel)) (@mi_any _ _ _ _ (@mv _ _ 1 _ (by rfl) (by first | exact Or.inl rfl | exact Or.inr (Or.inl rfl) | exact Or.inr (Or.inr rfl)) (by decide) (by decide))) (blkOk_by (own := [("_law_window", 8)]) (N := ["_law_lags", "_law_spans", "_law_firsts", "_law_lasts", "_law_turn", "_law_i", "_law_j", "_law_rows", "_law_window"]) (sc := defScope s__law_narrowed) (by decide +kernel)) (fun _ _ _ _ _ => (@mg_nameV _ _ (8) _ sc__law_narrowed.nd rfl (by first | exact Or.inl rfl | exact Or.inr rfl) _ (by decide) (by first | exact .inl rfl | exact .inr rfl | assumption))) (fun _ _ _ _ _ => mts_nil) (fun _ _ _ _ _ => (@me_ix _ _ _ _ _ _ (hu_of hr) (@mv _ _ 8 _ (by rfl) (by first | exact Or.inl rfl | exact Or.inr (Or.inl rfl) | exact Or.inr (Or.inr rfl)) (by decide) (by decide)) me_int (fun _ _ => rfl))) (by intro _; rfl)) (@ms_cons _ _ _ _ _ (@ms_for _ _ _ _ _ _ _ ([4]) _ PassesOwn.never rfl (@mi_rng1 _ _ _ _ _ _ (@pi_range1 _ _ _ _ _ _ rfl z_range (@ma_cons _ _ _ _ _ (@me_len _ _ _ _ _ (by rfl) z_len (@ma_cons _ _ _ _ _ (@mv _ _ 1 _ (by rfl) (by first | exact Or.inl rfl | exact Or.inr (Or.inl rfl) | exact Or.inr (Or.inr rfl)) (by decide) (by decide)) ma_nil (by rfl)) (by rfl)) ma_nil (by rfl)) (by rfl))) (@mg_nameV _ _ (4) _ sc__law_narrowed.nd rfl (by first | exact Or.inl rfl | exact Or.inr rfl) _ (by decide) (by first | exact .inl rfl | exact .inr rfl | assumption)) (@ms_one _ _ _ (@ms_for _ _ _ _ _ _ _ ([5, 6, 7]) _ PassesOwn.never rfl (@mi_any _ _ _ _ (@mv _ _ 0 _ (by rfl) (by first | exact Or.inl rfl | exact Or.inr (Or.inl rfl) | exact Or.inr (Or.inr rfl)) (by decide) (by decide))) (@mg_many _ _ ([5, 6, 7]) (@pg_tup _ _ _ _ _ _ rfl (@pgs_cons _ _ _ _ _ (@pg_name _ _ (5) _ sc__law_narrowed.nd rfl (by first | exact Or.inl rfl | exact Or.inr rfl) (by first | exact .inl rfl | exact .inr rfl | assumption)) (@pgs_cons _ _ _ _ _ (@pg_name _ _ (6) _ sc__law_narrowed.nd rfl (by first | exact Or.inl rfl | exact Or.inr rfl) (by first | exact .inl rfl | exact .inr rfl | assumption)) (@pgs_cons _ _ _ _ _ (@pg_name _ _ (7) _ sc__law_narrowed.nd rfl (by first | exact Or.inl rfl | exact Or.inr rfl) (by first | exact .inl rfl | exact .inr rfl | assumption)) pgs_nil (by rfl)) (by rfl)) (by rfl)) (by rfl) (by rfl)) _ (by decide)) (@ms_cons _ _ _ _ _ (@ms_sub _ _ _ _ _ (@ps_asg _ _ _ _ _ _ (@me_callB _ _ _ _ _ _ _ _ _ _ (call_max2 rfl) max2_m (by rfl) z_max boot_max (@ma_cons _ _ _ _ _ (@me_ix _ _ _ _ _ _ (hu_of hr) (@mv _ _ 2 _ (by rfl) (by first | exact Or.inl rfl | exact Or.inr (Or.inl rfl) | exact Or.inr (Or.inr rfl)) (by decide) (by decide)) (@mv _ _ 6 _ (by rfl) (by first | exact Or.inl rfl | exact Or.inr (Or.inl rfl) | exact Or.inr (Or.inr rfl)) (by decide) (by decide)) (fun _ _ => rfl)) (@ma_cons _ _ _ _ _ (@me_add _ _ _ _ _ _ (@me_ix _ _ _ _ _ _ (hu_of hr) (@mv _ _ 2 _ (by rfl) (by first | exact Or.inl rfl | exact Or.inr (Or.inl rfl) | exact Or.inr (Or.inr rfl)) (by decide) (by decide)) (@mv _ _ 5 _ (by rfl) (by first | exact Or.inl rfl | exact Or.inr (Or.inl rfl) | exact Or.inr (Or.inr rfl)) (by decide) (by decide)) (fun _ _ => rfl)) (@mv _ _ 7 _ (by rfl) (by first | exact Or.inl rfl | exact Or.inr (Or.inl rfl) | exact Or.inr (Or.inr rfl)) (by decide) (by decide))) ma_nil (by rfl)) (by rfl)) (by decide) (by decide) (by rfl) (by rfl)) (@pg_sub _ _ _ _ _ _ _ (@mv _ _ 2 _ (by rfl) (by first | exact Or.inl rfl | exact Or.inr (Or.inl rfl) | exact Or.inr (Or.inr rfl)) (by decide) (by decide)) (@mv _ _ 6 _ (by rfl) (by first | exact Or.inl rfl | exact Or.inr (Or.inl rfl) | exact Or.inr (Or.inr rfl)) (by decide) (by decide)) (set_any (hu_of hr)) (by intro _; rfl)) (by rfl) (by rfl) (by rfl))) (@ms_one _ _ _ (@ms_sub _ _ _ _ _ (@ps_asg _ _ _ _ _ _ (@me_callB _ _ _ _ _ _ _ _ _ _ (call_min2 rfl) min2_m (by rfl) z_min boot_min (@ma_cons _ _ _ _ _ (@me_ix _ _ _ _ _ _ (hu_of hr) (@mv _ _ 3 _ (by rfl) (by first | exact Or.inl rfl | exact Or.inr (Or.inl rfl) | exact Or.inr (Or.inr rfl)) (by decide) (by decide)) (@mv _ _ 5 _ (by rfl) (by first | exact Or.inl rfl | exact Or.inr (Or.inl rfl) | exact Or.inr (Or.inr rfl)) (by decide) (by decide)) (fun _ _ => rfl)) (@ma_cons _ _ _ _ _ (@me_sub _ _ _ _ _ _ (@me_ix _ _ _ _ _ _ (hu_of hr) (@mv _ _ 3 _ (by rfl) (by first | exact Or.inl rfl | exact Or.inr (Or.inl rfl) | exact Or.inr (Or.inr rfl)) (by decide) (by decide)) (@mv _ _ 6 _ (by rfl) (by first | exact Or.inl rfl | exact Or.inr (Or.inl rfl) | exact Or.inr (Or.inr rfl)) (by decide) (by decide)) (fun _ _ => rfl)) (@mv _ _ 7 _ (by rfl) (by first | exact Or.inl rfl | exact Or.inr (Or.inl rfl) | exact Or.inr (Or.inr rfl)) (by decide) (by decide))) ma_nil (by rfl)) (by rfl)) (by decide) (by decide) (by rfl) (by rfl)) (@pg_sub _ _ _ _ _ _ _ (@mv _ _ 3 _ (by rfl) (by first | exact Or.inl rfl | exact Or.inr (Or.inl rfl) | exact Or.inr (Or.inr rfl)) (by decide) (by decide)) (@mv _ _ 5 _ (by rfl) (by first | exact Or.inl rfl | exact Or.inr (Or.inl rfl) | exact Or.inr (Or.inr rfl)) (by decide) (by decide)) (set_any (hu_of hr)) (by intro _; rfl)) (by rfl) (by rfl) (by rfl))))) (by intro _; rfl))) (by intro _; rfl)) (@ms_one _ _ _ (@ms_ret _ _ _ _ (me_zip_val false (by rfl) (by rfl) (by rfl) z_list z_zip (@ma_cons _ _ _ _ _ (@mv _ _ 2 _ (by rfl) (by first | exact Or.inl rfl | exact Or.inr (Or.inl rfl) | exact Or.inr (Or.inr rfl)) (by decide) (by decide)) (@ma_cons _ _ _ _ _ (@mv _ _ 3 _ (by rfl) (by first | exact Or.inl rfl | exact Or.inr (Or.inl rfl) | exact Or.inr (Or.inr rfl)) (by decide) (by decide)) ma_nil (by rfl)) (by rfl))))))))
abbrev s__law_is_empty : Stmt := top 7
theorem sc__law_is_empty : FnScope ["_law_spans", "_law_window"] ["_law_spans"] (defScope s__law_is_empty) := ⟨rfl, rfl, rfl, by decide +kernel, rfl, by decide +kernel, by decide +kernel⟩
theorem ok__law_is_empty {a : Addr} {fd : FuncData} (F : Fun K "_law_is_empty" "_law_is_empty" s__law_is_empty a fd) : FnOk P w K mg base CX0 1 a fd ["_law_spans"] (spM K 1 f__law_is_empty) :=
  fn_ok F sc__law_is_empty fun cdv A outer s H E hr => (@ms_one _ _ _ (@ms_ret _ _ _ _ (@me_ne _ _ _ _ _ _ hr.units (@me_lc _ _ _ _ _ _ _ ([("_law_window", 1)]) _ ((gOne 1)) _ _ (by rfl) sc__law_is_empty.nd (@mi_any _ _ _ _ (@mv _ _ 0 _ (by rfl) (by first | exact Or.inl rfl | exact Or.inr (Or.inl rfl) | exact Or.inr (Or.inr rfl)) (by decide) (by decide))) (blkOk_by (own := [("_law_window", 1)]) (N := ["_law_spans", "_law_window"]) (sc := defScope s__law_is_empty) (by decide +kernel)) (fun _ _ _ _ _ => (@mg_nameV _ _ (1) _ sc__law_is_empty.nd rfl (by first | exact Or.inl rfl | exact Or.inr rfl) _ (by decide) (by first | exact .inl rfl | exact .inr rfl | assumption))) (fun _ _ _ _ _ => (@mts_one _ _ _ (@mt_gt _ _ _ _ _ _ (@me_ix _ _ _ _ _ _ (hu_of hr) (@mv _ _ 1 _ (by rfl) (by first | exact Or.inl rfl | exact Or.inr (Or.inl rfl) | exact Or.inr (Or.inr rfl)) (by decide) (by decide)) me_int (fun _ _ => rfl)) (@me_ix _ _ _ _ _ _ (hu_of hr) (@mv _ _ 1 _ (by rfl) (by first | exact Or.inl rfl | exact Or.inr (Or.inl rfl) | exact Or.inr (Or.inr rfl)) (by decide) (by decide)) me_int (fun _ _ => rfl))))) (fun _ _ _ _ _ => (@mv _ _ 1 _ (by rfl) (by first | exact Or.inl rfl | exact Or.inr (Or.inl rfl) | exact Or.inr (Or.inr rfl)) (by decide) (by decide))) (by intro _; rfl)) (@me_lst _ _ _ _ ma_nil))))
abbrev s__law_drawn : Stmt := top 8
theorem sc__law_drawn : FnScope ["_law_deck_here", "_law_great", "_law_many", "_law_often", "_law_lags", "_law_i", "_law_j", "_law_spans", "_law_k", "_law_first", "_law_last"] ["_law_deck_here"] (defScope s__law_drawn) := ⟨rfl, rfl, rfl, by decide +kernel, rfl, by decide +kernel, by decide +kernel⟩
theorem ok__law_drawn {a : Addr} {fd : FuncData} (F : Fun K "_law_drawn" "_law_drawn" s__law_drawn a fd) (d__law_take : Def P w K mg base "_law_take" 1 ["_law_deck_here", "_law_most"] f__law_take) (z_int : mg "int" = none) (z_range : mg "range" = none) (z_tuple : mg "tuple" = none) : FnOk P w K mg base CX0 2 a fd ["_law_deck_here"] (spM K 1 f__law_drawn) :=
  fn_ok F sc__law_drawn fun cdv A outer s H E hr => (@ms_cons _ _ _ _ _ (@ms_set _ _ _ _ (@ps_set _ _ (1) _ _ _ _ sc__law_drawn.nd rfl (by first | exact Or.inl rfl | exact Or.inr rfl) (@me_callTy _ _ _ _ _ _ _ _ _ _ call_int1 int_c (by rfl) z_int boot_int (@ma_cons _ _ _ _ _ (@me_eq _ _ _ _ _ _ hr.units (@me_def _ _ _ _ _ _ _ _ _ _ _ d__law_take hr (by decide) (by rfl) (@ma_cons _ _ _ _ _ (@mv _ _ 0 _ (by rfl) (by first | exact Or.inl rfl | exact Or.inr (Or.inl rfl) | exact Or.inr (Or.inr rfl)) (by decide) (by decide)) (@ma_cons _ _ _ _ _ me_int ma_nil (by rfl)) (by rfl)) (len_cons (len_cons (fun δ M r h => len_nil h))) (by decide) (by rfl) (by rfl)) me_int) ma_nil (by rfl)) (by decide) (by decide) (by rfl) (by rfl)) (by rfl) (by first | exact .inl rfl | exact .inr rfl | assumption))) (@ms_cons _ _ _ _ _ (@ms_set _ _ _ _ (@ps_set _ _ (2) _ _ _ _ sc__law_drawn.nd rfl (by first | exact Or.inl rfl | exact Or.inr rfl) (@me_ix _ _ _ _ _ _ (hu_of hr) (@me_lst _ _ _ _ (@ma_cons _ _ _ _ _ (@me_add _ _ _ _ _ _ me_int (@me_def _ _ _ _ _ _ _ _ _ _ _ d__law_take hr (by decide) (by rfl) (@ma_cons _ _ _ _ _ (@mv _ _ 0 _ (by rfl) (by first | exact Or.inl rfl | exact Or.inr (Or.inl rfl) | exact Or.inr (Or.inr rfl)) (by decide) (by decide)) (@ma_cons _ _ _ _ _ me_int ma_nil (by rfl)) (by rfl)) (len_cons (len_cons (fun δ M r h => len_nil h))) (by decide) (by rfl) (by rfl))) (@ma_cons _ _ _ _ _ me_int ma_nil (by rfl)) (by rfl))) (@mv _ _ 1 _ (by rfl) (by first | exact Or.inl rfl | exact Or.inr (Or.inl rfl) | exact Or.inr (Or.inr rfl)) (by decide) (by decide)) (fun _ _ => rfl)) (by rfl) (by first | exact .inl rfl | exact .inr rfl | assumption))) (@ms_cons _ _ _ _ _ (@ms_set _ _ _ _ (@ps_set _ _ (3) _ _ _ _ sc__law_drawn.nd rfl (by first | exact Or.inl rfl | exact Or.inr rfl) (@me_add _ _ _ _ _ _ me_int (@me_def _ _ _ _ _ _ _ _ _ _ _ d__law_take hr (by decide) (by rfl) (@ma_cons _ _ _ _ _ (@mv _ _ 0 _ (by rfl) (by first | exact Or.inl rfl | exact Or.inr (Or.inl rfl) | exact Or.inr (Or.inr rfl)) (by decide) (by decide)) (@ma_cons _ _ _ _ _ me_int ma_nil (by rfl)) (by rfl)) (len_cons (len_cons (fun δ M r h => len_nil h))) (by decide) (by rfl) (by rfl))) (by rfl) (by first | exact .inl rfl | exact .inr rfl | assumption))) (@ms_cons _ _ _ _ _ (@ms_set _ _ _ _ (@ps_set _ _ (4) _ _ _ _ sc__law_drawn.nd rfl (by first | exact Or.inl rfl | exact Or.inr rfl) (@me_lst _ _ _ _ ma_nil) (by rfl) (by first | exact .inl rfl | exact .inr rfl | assumption))) (@ms_cons _ _ _ _ _ (@ms_for _ _ _ _ _ _ _ ([5]) _ PassesOwn.never rfl (@mi_rng1 _ _ _ _ _ _ (@pi_range1 _ _ _ _ _ _ rfl z_range (@ma_cons _ _ _ _ _ (@mv _ _ 2 _ (by rfl) (by first | exact Or.inl rfl | exact Or.inr (Or.inl rfl) | exact Or.inr (Or.inr rfl)) (by decide) (by decide)) ma_nil (by rfl)) (by rfl))) (@mg_nameV _ _ (5) _ sc__law_drawn.nd rfl (by first | exact Or.inl rfl | exact Or.inr rfl) _ (by decide) (by first | exact .inl rfl | exact .inr rfl | assumption)) (@ms_one _ _ _ (@ms_for _ _ _ _ _ _ _ ([6]) _ PassesOwn.never rfl (@mi_rng2 _ _ _ _ _ _ _ (@pi_range2 _ _ _ _ _ _ _ rfl z_range (@ma_cons _ _ _ _ _ (@me_add _ _ _ _ _ _ (@mv _ _ 5 _ (by rfl) (by first | exact Or.inl rfl | exact Or.inr (Or.inl rfl) | exact Or.inr (Or.inr rfl)) (by decide) (by decide)) me_int) (@ma_cons _ _ _ _ _ (@mv _ _ 2 _ (by rfl) (by first | exact Or.inl rfl | exact Or.inr (Or.inl rfl) | exact Or.inr (Or.inr rfl)) (by decide) (by decide)) ma_nil (by rfl)) (by rfl)) (by rfl) (by rfl))) (@mg_nameV _ _ (6) _ sc__law_drawn.nd rfl (by first | exact Or.inl rfl | exact Or.inr rfl) _ (by decide) (by first | exact .inl rfl | exact .inr rfl | assumption)) (@ms_one _ _ _ (@ms_if _ _ _ _ _ _ _ _ (@mt_eq _ _ _ _ _ _ hr.units (@me_def _ _ _ _ _ _ _ _ _ _ _ d__law_take hr (by decide) (by rfl) (@ma_cons _ _ _ _ _ (@mv _ _ 0 _ (by rfl) (by first | exact Or.inl rfl | exact Or.inr (Or.inl rfl) | exact Or.inr (Or.inr rfl)) (by decide) (by decide)) (@ma_cons _ _ _ _ _ (@mv _ _ 3 _ (by rfl) (by first | exact Or.inl rfl | exact Or.inr (Or.inl rfl) | exact Or.inr (Or.inr rfl)) (by decide) (by decide)) ma_nil (by rfl)) (by rfl)) (len_cons (len_cons (fun δ M r h => len_nil h))) (by decide) (by rfl) (by rfl)) me_int) (@ms_one _ _ _ (@ms_expr _ _ _ _ (@me_methL _ _ _ _ _ _ _ _ _ ("list.append") _ _ append_m (@pe_bm _ _ _ _ _ _ _ _ _ _ _ _ PySem.F.plainAttrs_list PySem.F.slot_list_append PySem.F.type_list_append mt_append (@mv _ _ 4 _ (by rfl) (by first | exact Or.inl rfl | exact Or.inr (Or.inl rfl) | exact Or.inr (Or.inr rfl)) (by decide) (by decide)) (@ma_cons _ _ _ _ _ (@me_tup _ _ _ _ _ (@ma_cons _ _ _ _ _ (@mv _ _ 5 _ (by rfl) (by first | exact Or.inl rfl | exact Or.inr (Or.inl rfl) | exact Or.inr (Or.inr rfl)) (by decide) (by decide)) (@ma_cons _ _ _ _ _ (@mv _ _ 6 _ (by rfl) (by first | exact Or.inl rfl | exact Or.inr (Or.inl rfl) | exact Or.inr (Or.inr rfl)) (by decide) (by decide)) (@ma_cons _ _ _ _ _ (@me_def _ _ _ _ _ _ _ _ _ _ _ d__law_take hr (by decide) (by rfl) (@ma_cons _ _ _ _ _ (@mv _ _ 0 _ (by rfl) (by first | exact Or.inl rfl | exact Or.inr (Or.inl rfl) | exact Or.inr (Or.inr rfl)) (by decide) (by decide)) (@ma_cons _ _ _ _ _ me_int ma_nil (by rfl)) (by rfl)) (len_cons (len_cons (fun δ M r h => len_nil h))) (by decide) (by rfl) (by rfl)) ma_nil (by rfl)) (by rfl)) (by rfl))) ma_nil (by rfl)) (by rfl) (by rfl) (by rfl) (by rfl) (by rfl))) (by rfl))) ms_nil)) (by intro _; rfl))) (by intro _; rfl)) (@ms_cons _ _ _ _ _ (@ms_set _ _ _ _ (@ps_set _ _ (7) _ _ _ _ sc__law_drawn.nd rfl (by first | exact Or.inl rfl | exact Or.inr rfl) (@me_lst _ _ _ _ ma_nil) (by rfl) (by first | exact .inl rfl | exact .inr rfl | assumption))) (@ms_cons _ _ _ _ _ (@ms_for _ _ _ _ _ _ _ ([8]) _ PassesOwn.never rfl (@mi_rng1 _ _ _ _ _ _ (@pi_range1 _ _ _ _ _ _ rfl z_range (@ma_cons _ _ _ _ _ (@mv _ _ 2 _ (by rfl) (by first | exact Or.inl rfl | exact Or.inr (Or.inl rfl) | exact Or.inr (Or.inr rfl)) (by decide) (by decide)) ma_nil (by rfl)) (by rfl))) (@mg_nameV _ _ (8) _ sc__law_drawn.nd rfl (by first | exact Or.inl rfl | exact Or.inr rfl) _ (by decide) (by first | exact .inl rfl | exact .inr rfl | assumption)) (@ms_cons _ _ _ _ _ (@ms_set _ _ _ _ (@ps_set _ _ (9) _ _ _ _ sc__law_drawn.nd rfl (by first | exact Or.inl rfl | exact Or.inr rfl) (@me_ix _ _ _ _ _ _ (hu_of hr) (@me_lst _ _ _ _ (@ma_cons _ _ _ _ _ me_int (@ma_cons _ _ _ _ _ me_int (@ma_cons _ _ _ _ _ (@me_sub _ _ _ _ _ _ (@me_def _ _ _ _ _ _ _ _ _ _ _ d__law_take hr (by decide) (by rfl) (@ma_cons _ _ _ _ _ (@mv _ _ 0 _ (by rfl) (by first | exact Or.inl rfl | exact Or.inr (Or.inl rfl) | exact Or.inr (Or.inr rfl)) (by decide) (by decide)) (@ma_cons _ _ _ _ _ me_int ma_nil (by rfl)) (by rfl)) (len_cons (len_cons (fun δ M r h => len_nil h))) (by decide) (by rfl) (by rfl)) me_int) ma_nil (by rfl)) (by rfl)) (by rfl))) (@me_def _ _ _ _ _ _ _ _ _ _ _ d__law_take hr (by decide) (by rfl) (@ma_cons _ _ _ _ _ (@mv _ _ 0 _ (by rfl) (by first | exact Or.inl rfl | exact Or.inr (Or.inl rfl) | exact Or.inr (Or.inr rfl)) (by decide) (by decide)) (@ma_cons _ _ _ _ _ me_int ma_nil (by rfl)) (by rfl)) (len_cons (len_cons (fun δ M r h => len_nil h))) (by decide) (by rfl) (by rfl)) (fun _ _ => rfl)) (by rfl) (by first | exact .inl rfl | exact .inr rfl | assumption))) (@ms_cons _ _ _ _ _ (@ms_set _ _ _ _ (@ps_set _ _ (10) _ _ _ _ sc__law_drawn.nd rfl (by first | exact Or.inl rfl | exact Or.inr rfl) (@me_lst _ _ _ _ (@ma_cons _ _ _ _ _ (@me_sub _ _ _ _ _ _ (@me_add _ _ _ _ _ _ (@mv _ _ 9 _ (by rfl) (by first | exact Or.inl rfl | exact Or.inr (Or.inl rfl) | exact Or.inr (Or.inr rfl)) (by decide) (by decide)) (@me_def _ _ _ _ _ _ _ _ _ _ _ d__law_take hr (by decide) (by rfl) (@ma_cons _ _ _ _ _ (@mv _ _ 0 _ (by rfl) (by first | exact Or.inl rfl | exact Or.inr (Or.inl rfl) | exact Or.inr (Or.inr rfl)) (by decide) (by decide)) (@ma_cons _ _ _ _ _ me_int ma_nil (by rfl)) (by rfl)) (len_cons (len_cons (fun δ M r h => len_nil h))) (by decide) (by rfl) (by rfl))) me_int) (@ma_cons _ _ _ _ _ (@me_sub _ _ _ _ _ _ (@me_ix _ _ _ _ _ _ (hu_of hr) (@me_lst _ _ _ _ (@ma_cons _ _ _ _ _ me_int (@ma_cons _ _ _ _ _ me_int ma_nil (by rfl)) (by rfl))) (@mv _ _ 1 _ (by rfl) (by first | exact Or.inl rfl | exact Or.inr (Or.inl rfl) | exact Or.inr (Or.inr rfl)) (by decide) (by decide)) (fun _ _ => rfl)) (@me_def _ _ _ _ _ _ _ _ _ _ _ d__law_take hr (by decide) (by rfl) (@ma_cons _ _ _ _ _ (@mv _ _ 0 _ (by rfl) (by first | exact Or.inl rfl | exact Or.inr (Or.inl rfl) | exact Or.inr (Or.inr rfl)) (by decide) (by decide)) (@ma_cons _ _ _ _ _ me_int ma_nil (by rfl)) (by rfl)) (len_cons (len_cons (fun δ M r h => len_nil h))) (by decide) (by rfl) (by rfl))) ma_nil (by rfl)) (by rfl))) (by rfl) (by first | exact .inl rfl | exact .inr rfl | assumption))) (@ms_one _ _ _ (@ms_expr _ _ _ _ (@me_methL _ _ _ _ _ _ _ _ _ ("list.append") _ _ append_m (@pe_bm _ _ _ _ _ _ _ _ _ _ _ _ PySem.F.plainAttrs_list PySem.F.slot_list_append PySem.F.type_list_append mt_append (@mv _ _ 7 _ (by rfl) (by first | exact Or.inl rfl | exact Or.inr (Or.inl rfl) | exact Or.inr (Or.inr rfl)) (by decide) (by decide)) (@ma_cons _ _ _ _ _ (@me_tup _ _ _ _ _ (@ma_cons _ _ _ _ _ (@mv _ _ 9 _ (by rfl) (by first | exact Or.inl rfl | exact Or.inr (Or.inl rfl) | exact Or.inr (Or.inr rfl)) (by decide) (by decide)) (@ma_cons _ _ _ _ _ (@me_ix _ _ _ _ _ _ (hu_of hr) (@mv _ _ 10 _ (by rfl) (by first | exact Or.inl rfl | exact Or.inr (Or.inl rfl) | exact Or.inr (Or.inr rfl)) (by decide) (by decide)) (@me_callTy _ _ _ _ _ _ _ _ _ _ call_int1 int_c (by rfl) z_int boot_int (@ma_cons _ _ _ _ _ (@me_gt _ _ _ _ _ _ (@me_def _ _ _ _ _ _ _ _ _ _ _ d__law_take hr (by decide) (by rfl) (@ma_cons _ _ _ _ _ (@mv _ _ 0 _ (by rfl) (by first | exact Or.inl rfl | exact Or.inr (Or.inl rfl) | exact Or.inr (Or.inr rfl)) (by decide) (by decide)) (@ma_cons _ _ _ _ _ (@me_ix _ _ _ _ _ _ (hu_of hr) (@me_lst _ _ _ _ (@ma_cons _ _ _ _ _ me_int (@ma_cons _ _ _ _ _ me_int ma_nil (by rfl)) (by rfl))) (@mv _ _ 1 _ (by rfl) (by first | exact Or.inl rfl | exact Or.inr (Or.inl rfl) | exact Or.inr (Or.inr rfl)) (by decide) (by decide)) (fun _ _ => rfl)) ma_nil (by rfl)) (by rfl)) (len_cons (len_cons (fun δ M r h => len_nil h))) (by decide) (by rfl) (by rfl)) me_int) ma_nil (by rfl)) (by decide) (by decide) (by rfl) (by rfl)) (fun _ _ => rfl)) ma_nil (by rfl)) (by rfl))) ma_nil (by rfl)) (by rfl) (by rfl) (by rfl) (by rfl) (by rfl))) (by rfl))))) (by intro _; rfl)) (@ms_one _ _ _ (@ms_ret _ _ _ _ (@me_tup _ _ _ _ _ (@ma_cons _ _ _ _ _ (@me_callTy _ _ _ _ _ _ _ _ _ _ call_tuple_of tuple_m (by rfl) z_tuple boot_tuple (@ma_cons _ _ _ _ _ (@mv _ _ 4 _ (by rfl) (by first | exact Or.inl rfl | exact Or.inr (Or.inl rfl) | exact Or.inr (Or.inr rfl)) (by decide) (by decide)) ma_nil (by rfl)) (by decide) (by decide) (by rfl) (by rfl)) (@ma_cons _ _ _ _ _ (@me_callTy _ _ _ _ _ _ _ _ _ _ call_tuple_of tuple_m (by rfl) z_tuple boot_tuple (@ma_cons _ _ _ _ _ (@mv _ _ 7 _ (by rfl) (by first | exact Or.inl rfl | exact Or.inr (Or.inl rfl) | exact Or.inr (Or.inr rfl)) (by decide) (by decide)) ma_nil (by rfl)) (by decide) (by decide) (by rfl) (by rfl)) ma_nil (by rfl)) (by rfl))))))))))))
abbrev s__law_is_told : Stmt := top 9
theorem sc__law_is_told : FnScope ["_law_found", "_law_due", "_law_window"] ["_law_found", "_law_due"] (defScope s__law_is_told) := ⟨rfl, rfl, rfl, by decide +kernel, rfl, by decide +kernel, by decide +kernel⟩
theorem ok__law_is_told {a : Addr} {fd : FuncData} (F : Fun K "_law_is_told" "_law_is_told" s__law_is_told a fd) (d__law_whole : Def P w K mg base "_law_whole" 1 ["_law_thing"] f__law_whole) (z_isinstance : mg "isinstance" = none) (z_len : mg "len" = none) (z_list : mg "list" = none) (z_tuple : mg "tuple" = none) : FnOk P w K mg base CX0 2 a fd ["_law_found", "_law_due"] (spM K 2 f__law_is_told) :=
  fn_ok F sc__law_is_told fun cdv A outer s H E hr => (@ms_cons _ _ _ _ _ (@ms_if _ _ _ _ _ _ _ _ (PW.pt (@mw_or _ _ _ _ _ _ _ (@mt_not _ _ _ _ (@mt_truth _ _ _ (@me_callB _ _ _ _ _ _ _ _ _ _ call_isi isi_m (by rfl) z_isinstance boot_isinst (@ma_cons _ _ _ _ _ (@mv _ _ 0 _ (by rfl) (by first | exact Or.inl rfl | exact Or.inr (Or.inl rfl) | exact Or.inr (Or.inr rfl)) (by decide) (by decide)) (@ma_cons _ _ _ _ _ (@me_type _ _ _ _ (by rfl) z_tuple boot_tuple (by decide) (by decide)) ma_nil (by rfl)) (by rfl)) (by decide) (by decide) (by rfl) (by rfl)) (by intro _; rfl))) (@mw_or1 _ _ _ _ (@mt_ne _ _ _ _ _ _ hr.units (@me_callTy _ _ _ _ _ _ _ _ _ _ call_list_of list_m (by rfl) z_list boot_list (@ma_cons _ _ _ _ _ (@mv _ _ 0 _ (by rfl) (by first | exact Or.inl rfl | exact Or.inr (Or.inl rfl) | exact Or.inr (Or.inr rfl)) (by decide) (by decide)) ma_nil (by rfl)) (by decide) (by decide) (by rfl) (by rfl)) (@mv _ _ 1 _ (by rfl) (by first | exact Or.inl rfl | exact Or.inr (Or.inl rfl) | exact Or.inr (Or.inr rfl)) (by decide) (by decide)))))) (@ms_one _ _ _ (@ms_ret _ _ _ _ me_bl)) ms_nil) (@ms_cons _ _ _ _ _ (@ms_for _ _ _ _ _ _ _ ([2]) _ PassesOwn.never rfl (@mi_any _ _ _ _ (@mv _ _ 0 _ (by rfl) (by first | exact Or.inl rfl | exact Or.inr (Or.inl rfl) | exact Or.inr (Or.inr rfl)) (by decide) (by decide))) (@mg_nameV _ _ (2) _ sc__law_is_told.nd rfl (by first | exact Or.inl rfl | exact Or.inr rfl) _ (by decide) (by first | exact .inl rfl | exact .inr rfl | assumption)) (@ms_one _ _ _ (@ms_if _ _ _ _ _ _ _ _ (PW.pt (@mw_or _ _ _ _ _ _ _ (@mt_not _ _ _ _ (@mt_truth _ _ _ (@me_callB _ _ _ _ _ _ _ _ _ _ call_isi isi_m (by rfl) z_isinstance boot_isinst (@ma_cons _ _ _ _ _ (@mv _ _ 2 _ (by rfl) (by first | exact Or.inl rfl | exact Or.inr (Or.inl rfl) | exact Or.inr (Or.inr rfl)) (by decide) (by decide)) (@ma_cons _ _ _ _ _ (@me_type _ _ _ _ (by rfl) z_tuple boot_tuple (by decide) (by decide)) ma_nil (by rfl)) (by rfl)) (by decide) (by decide) (by rfl) (by rfl)) (by intro _; rfl))) (@mw_or _ _ _ _ _ _ _ (@mt_ne _ _ _ _ _ _ hr.units (@me_len _ _ _ _ _ (by rfl) z_len (@ma_cons _ _ _ _ _ (@mv _ _ 2 _ (by rfl) (by first | exact Or.inl rfl | exact Or.inr (Or.inl rfl) | exact Or.inr (Or.inr rfl)) (by decide) (by decide)) ma_nil (by rfl)) (by rfl)) me_int) (@mw_or _ _ _ _ _ _ _ (@mt_not _ _ _ _ (@mt_truth _ _ _ (@me_def _ _ _ _ _ _ _ _ _ _ _ d__law_whole hr (by decide) (by rfl) (@ma_cons _ _ _ _ _ (@me_ix _ _ _ _ _ _ (hu_of hr) (@mv _ _ 2 _ (by rfl) (by first | exact Or.inl rfl | exact Or.inr (Or.inl rfl) | exact Or.inr (Or.inr rfl)) (by decide) (by decide)) me_int (fun _ _ => rfl)) ma_nil (by rfl)) (len_cons (fun δ M r h => len_nil h)) (by decide) (by rfl) (by rfl)) (by intro _; rfl))) (@mw_or1 _ _ _ _ (@mt_not _ _ _ _ (@mt_truth _ _ _ (@me_def _ _ _ _ _ _ _ _ _ _ _ d__law_whole hr (by decide) (by rfl) (@ma_cons _ _ _ _ _ (@me_ix _ _ _ _ _ _ (hu_of hr) (@mv _ _ 2 _ (by rfl) (by first | exact Or.inl rfl | exact Or.inr (Or.inl rfl) | exact Or.inr (Or.inr rfl)) (by decide) (by decide)) me_int (fun _ _ => rfl)) ma_nil (by rfl)) (len_cons (fun δ M r h => len_nil h)) (by decide) (by rfl) (by rfl)) (by intro _; rfl)))))))) (@ms_one _ _ _ (@ms_ret _ _ _ _ me_bl)) ms_nil)) (by intro _; rfl)) (@ms_one _ _ _ (@ms_ret _ _ _ _ me_bl))))
abbrev s_law : Stmt := top 10
theorem sc_law : FnScope ["_law_script", "_law_deck_here", "_law_turn", "_law_lags", "_law_spans", "_law_due", "_law_found", "_law_i", "_law_j", "_law_rows"] ["_law_script"] (defScope s_law) := ⟨rfl, rfl, rfl, by decide +kernel, rfl, by decide +kernel, by decide +kernel⟩
theorem ok_law {a : Addr} {fd : FuncData} (F : Fun K "law" "law" s_law a fd) (d__law_deck : Def P w K mg base "_law_deck" 1 ["_law_script"] f__law_deck) (d__law_drawn : Def P w K mg base "_law_drawn" 2 ["_law_deck_here"] f__law_drawn) (d__law_is_empty : Def P w K mg base "_law_is_empty" 1 ["_law_spans"] f__law_is_empty) (d__law_is_told : Def P w K mg base "_law_is_told" 2 ["_law_found", "_law_due"] f__law_is_told) (d__law_narrowed : Def P w K mg base "_law_narrowed" 1 ["_law_lags", "_law_spans"] f__law_narrowed) (d_narrowed : Def P w K mg base "narrowed" 2 ["waits", "windows"] f_narrowed) (z_range : mg "range" = none) : FnOk P w K mg base CX0 3 a fd ["_law_script"] (spM K 1 f_law) :=
  fn_ok F sc_law fun cdv A outer s H E hr => (@ms_cons _ _ _ _ _ (@ms_set _ _ _ _ (@ps_set _ _ (1) _ _ _ _ sc_law.nd rfl (by first | exact Or.inl rfl | exact Or.inr rfl) (@me_def _ _ _ _ _ _ _ _ _ _ _ d__law_deck hr (by decide) (by rfl) (@ma_cons _ _ _ _ _ (@mv _ _ 0 _ (by rfl) (by first | exact Or.inl rfl | exact Or.inr (Or.inl rfl) | exact Or.inr (Or.inr rfl)) (by decide) (by decide)) ma_nil (by rfl)) (len_cons (fun δ M r h => len_nil h)) (by decide) (by rfl) (by rfl)) (by rfl) (by first | exact .inl rfl | exact .inr rfl | assumption))) (@ms_cons _ _ _ _ _ (@ms_for _ _ _ _ _ _ _ ([2]) _ PassesOwn.never rfl (@mi_rng1 _ _ _ _ _ _ (@pi_range1 _ _ _ _ _ _ rfl z_range (@ma_cons _ _ _ _ _ me_int ma_nil (by rfl)) (by rfl))) (@mg_nameV _ _ (2) _ sc_law.nd rfl (by first | exact Or.inl rfl | exact Or.inr rfl) _ (by decide) (by first | exact .inl rfl | exact .inr rfl | assumption)) (@ms_cons _ _ _ _ _ (@ms_asg _ _ _ (.Name "" ⟨0, 0, 0, 0⟩) _ ([3, 4]) (@ps_asg _ _ _ _ _ _ (@me_def _ _ _ _ _ _ _ _ _ _ _ d__law_drawn hr (by decide) (by rfl) (@ma_cons _ _ _ _ _ (@mv _ _ 1 _ (by rfl) (by first | exact Or.inl rfl | exact Or.inr (Or.inl rfl) | exact Or.inr (Or.inr rfl)) (by decide) (by decide)) ma_nil (by rfl)) (len_cons (fun δ M r h => len_nil h)) (by decide) (by rfl) (by rfl)) (@mg_many _ _ ([3, 4]) (@pg_tup _ _ _ _ _ _ rfl (@pgs_cons _ _ _ _ _ (@pg_name _ _ (3) _ sc_law.nd rfl (by first | exact Or.inl rfl | exact Or.inr rfl) (by first | exact .inl rfl | exact .inr rfl | assumption)) (@pgs_cons _ _ _ _ _ (@pg_name _ _ (4) _ sc_law.nd rfl (by first | exact Or.inl rfl | exact Or.inr rfl) (by first | exact .inl rfl | exact .inr rfl | assumption)) pgs_nil (by rfl)) (by rfl)) (by rfl) (by rfl)) _ (by decide)) (by rfl) (by rfl) (by rfl))) (@ms_cons _ _ _ _ _ (@ms_set _ _ _ _ (@ps_set _ _ (5) _ _ _ _ sc_law.nd rfl (by first | exact Or.inl rfl | exact Or.inr rfl) (@me_def _ _ _ _ _ _ _ _ _ _ _ d__law_narrowed hr (by decide) (by rfl) (@ma_cons _ _ _ _ _ (@mv _ _ 3 _ (by rfl) (by first | exact Or.inl rfl | exact Or.inr (Or.inl rfl) | exact Or.inr (Or.inr rfl)) (by decide) (by decide)) (@ma_cons _ _ _ _ _ (@mv _ _ 4 _ (by rfl) (by first | exact Or.inl rfl | exact Or.inr (Or.inl rfl) | exact Or.inr (Or.inr rfl)) (by decide) (by decide)) ma_nil (by rfl)) (by rfl)) (len_cons (len_cons (fun δ M r h => len_nil h))) (by decide) (by rfl) (by rfl)) (by rfl) (by first | exact .inl rfl | exact .inr rfl | assumption))) (@ms_cons _ _ _ _ _ (@ms_set _ _ _ _ (@ps_set _ _ (6) _ _ _ _ sc_law.nd rfl (by first | exact Or.inl rfl | exact Or.inr rfl) (@me_def _ _ _ _ _ _ _ _ _ _ _ d_narrowed hr (by decide) (by rfl) (@ma_cons _ _ _ _ _ (@mv _ _ 3 _ (by rfl) (by first | exact Or.inl rfl | exact Or.inr (Or.inl rfl) | exact Or.inr (Or.inr rfl)) (by decide) (by decide)) (@ma_cons _ _ _ _ _ (@mv _ _ 4 _ (by rfl) (by first | exact Or.inl rfl | exact Or.inr (Or.inl rfl) | exact Or.inr (Or.inr rfl)) (by decide) (by decide)) ma_nil (by rfl)) (by rfl)) (len_cons (len_cons (fun δ M r h => len_nil h))) (by decide) (by rfl) (by rfl)) (by rfl) (by first | exact .inl rfl | exact .inr rfl | assumption))) (@ms_one _ _ _ (@ms_if _ _ _ _ _ _ _ _ (@mt_truth _ _ _ (@me_def _ _ _ _ _ _ _ _ _ _ _ d__law_is_empty hr (by decide) (by rfl) (@ma_cons _ _ _ _ _ (@mv _ _ 5 _ (by rfl) (by first | exact Or.inl rfl | exact Or.inr (Or.inl rfl) | exact Or.inr (Or.inr rfl)) (by decide) (by decide)) ma_nil (by rfl)) (len_cons (fun δ M r h => len_nil h)) (by decide) (by rfl) (by rfl)) (by intro _; rfl)) (@ms_one _ _ _ (@ms_if _ _ _ _ _ _ _ _ (@mt_isnot _ _ _ _ _ _ (@mv _ _ 6 _ (by rfl) (by first | exact Or.inl rfl | exact Or.inr (Or.inl rfl) | exact Or.inr (Or.inr rfl)) (by decide) (by decide)) me_non) (@ms_one _ _ _ (@ms_ret _ _ _ _ me_bl)) ms_nil)) (@ms_cons _ _ _ _ _ (@ms_if _ _ _ _ _ _ _ _ (PW.pt (@mw_or _ _ _ _ _ _ _ (@mt_not _ _ _ _ (@mt_truth _ _ _ (@me_def _ _ _ _ _ _ _ _ _ _ _ d__law_is_told hr (by decide) (by rfl) (@ma_cons _ _ _ _ _ (@mv _ _ 6 _ (by rfl) (by first | exact Or.inl rfl | exact Or.inr (Or.inl rfl) | exact Or.inr (Or.inr rfl)) (by decide) (by decide)) (@ma_cons _ _ _ _ _ (@mv _ _ 5 _ (by rfl) (by first | exact Or.inl rfl | exact Or.inr (Or.inl rfl) | exact Or.inr (Or.inr rfl)) (by decide) (by decide)) ma_nil (by rfl)) (by rfl)) (len_cons (len_cons (fun δ M r h => len_nil h))) (by decide) (by rfl) (by rfl)) (by intro _; rfl))) (@mw_or1 _ _ _ _ (@mt_not _ _ _ _ (@mt_truth _ _ _ (@me_def _ _ _ _ _ _ _ _ _ _ _ d__law_is_told hr (by decide) (by rfl) (@ma_cons _ _ _ _ _ (@me_def _ _ _ _ _ _ _ _ _ _ _ d_narrowed hr (by decide) (by rfl) (@ma_cons _ _ _ _ _ (@mv _ _ 3 _ (by rfl) (by first | exact Or.inl rfl | exact Or.inr (Or.inl rfl) | exact Or.inr (Or.inr rfl)) (by decide) (by decide)) (@ma_cons _ _ _ _ _ (@mv _ _ 6 _ (by rfl) (by first | exact Or.inl rfl | exact Or.inr (Or.inl rfl) | exact Or.inr (Or.inr rfl)) (by decide) (by decide)) ma_nil (by rfl)) (by rfl)) (len_cons (len_cons (fun δ M r h => len_nil h))) (by decide) (by rfl) (by rfl)) (@ma_cons _ _ _ _ _ (@mv _ _ 5 _ (by rfl) (by first | exact Or.inl rfl | exact Or.inr (Or.inl rfl) | exact Or.inr (Or.inr rfl)) (by decide) (by decide)) ma_nil (by rfl)) (by rfl)) (len_cons (len_cons (fun δ M r h => len_nil h))) (by decide) (by rfl) (by rfl)) (by intro _; rfl)))))) (@ms_one _ _ _ (@ms_ret _ _ _ _ me_bl)) ms_nil) (@ms_one _ _ _ (@ms_for _ _ _ _ _ _ _ ([7, 8, 9]) _ PassesOwn.never rfl (@mi_any _ _ _ _ (@mv _ _ 3 _ (by rfl) (by first | exact Or.inl rfl | exact Or.inr (Or.inl rfl) | exact Or.inr (Or.inr rfl)) (by decide) (by decide))) (@mg_many _ _ ([7, 8, 9]) (@pg_tup _ _ _ _ _ _ rfl (@pgs_cons _ _ _ _ _ (@pg_name _ _ (7) _ sc_law.nd rfl (by first | exact Or.inl rfl | exact Or.inr rfl) (by first | exact .inl rfl | exact .inr rfl | assumption)) (@pgs_cons _ _ _ _ _ (@pg_name _ _ (8) _ sc_law.nd rfl (by first | exact Or.inl rfl | exact Or.inr rfl) (by first | exact .inl rfl | exact .inr rfl | assumption)) (@pgs_cons _ _ _ _ _ (@pg_name _ _ (9) _ sc_law.nd rfl (by first | exact Or.inl rfl | exact Or.inr rfl) (by first | exact .inl rfl | exact .inr rfl | assumption)) pgs_nil (by rfl)) (by rfl)) (by rfl)) (by rfl) (by rfl)) _ (by decide)) (@ms_one _ _ _ (@ms_if _ _ _ _ _ _ _ _ (PW.pt (@mw_or _ _ _ _ _ _ _ (@mt_lt _ _ _ _ _ _ (@me_ix _ _ _ _ _ _ (hu_of hr) (@me_ix _ _ _ _ _ _ (hu_of hr) (@mv _ _ 6 _ (by rfl) (by first | exact Or.inl rfl | exact Or.inr (Or.inl rfl) | exact Or.inr (Or.inr rfl)) (by decide) (by decide)) (@mv _ _ 8 _ (by rfl) (by first | exact Or.inl rfl | exact Or.inr (Or.inl rfl) | exact Or.inr (Or.inr rfl)) (by decide) (by decide)) (fun _ _ => rfl)) me_int (fun _ _ => rfl)) (@me_add _ _ _ _ _ _ (@me_ix _ _ _ _ _ _ (hu_of hr) (@me_ix _ _ _ _ _ _ (hu_of hr) (@mv _ _ 6 _ (by rfl) (by first | exact Or.inl rfl | exact Or.inr (Or.inl rfl) | exact Or.inr (Or.inr rfl)) (by decide) (by decide)) (@mv _ _ 7 _ (by rfl) (by first | exact Or.inl rfl | exact Or.inr (Or.inl rfl) | exact Or.inr (Or.inr rfl)) (by decide) (by decide)) (fun _ _ => rfl)) me_int (fun _ _ => rfl)) (@mv _ _ 9 _ (by rfl) (by first | exact Or.inl rfl | exact Or.inr (Or.inl rfl) | exact Or.inr (Or.inr rfl)) (by decide) (by decide)))) (@mw_or1 _ _ _ _ (@mt_lt _ _ _ _ _ _ (@me_ix _ _ _ _ _ _ (hu_of hr) (@me_ix _ _ _ _ _ _ (hu_of hr) (@mv _ _ 6 _ (by rfl) (by first | exact Or.inl rfl | exact Or.inr (Or.inl rfl) | exact Or.inr (Or.inr rfl)) (by decide) (by decide)) (@mv _ _ 8 _ (by rfl) (by first | exact Or.inl rfl | exact Or.inr (Or.inl rfl) | exact Or.inr (Or.inr rfl)) (by decide) (by decide)) (fun _ _ => rfl)) me_int (fun _ _ => rfl)) (@me_add _ _ _ _ _ _ (@me_ix _ _ _ _ _ _ (hu_of hr) (@me_ix _ _ _ _ _ _ (hu_of hr) (@mv _ _ 6 _ (by rfl) (by first | exact Or.inl rfl | exact Or.inr (Or.inl rfl) | exact Or.inr (Or.inr rfl)) (by decide) (by decide)) (@mv _ _ 7 _ (by rfl) (by first | exact Or.inl rfl | exact Or.inr (Or.inl rfl) | exact Or.inr (Or.inr rfl)) (by decide) (by decide)) (fun _ _ => rfl)) me_int (fun _ _ => rfl)) (@mv _ _ 9 _ (by rfl) (by first | exact Or.inl rfl | exact Or.inr (Or.inl rfl) | exact Or.inr (Or.inr rfl)) (by decide) (by decide))))))) (@ms_one _ _ _ (@ms_ret _ _ _ _ me_bl)) ms_nil)) (by intro _; rfl))))))))) (by intro _; rfl)) (@ms_one _ _ _ (@ms_ret _ _ _ _ (@me_eq _ _ _ _ _ _ hr.units (@me_def _ _ _ _ _ _ _ _ _ _ _ d_narrowed hr (by decide) (by rfl) (@ma_cons _ _ _ _ _ (@me_tup _ _ _ _ _ ma_nil) (@ma_cons _ _ _ _ _ (@me_tup _ _ _ _ _ ma_nil) ma_nil (by rfl)) (by rfl)) (len_cons (len_cons (fun δ M r h => len_nil h))) (by decide) (by rfl) (by rfl)) (@me_tup _ _ _ _ _ ma_nil))))))
end
end Lk33

set_option Elab.async false
set_option linter.all false
set_option maxRecDepth 100000
set_option maxHeartbeats 4000000
namespace Lk33
open PySem PySem.Spec L2 Mir
theorem all_mk {l : PySem.W.OpenLaw} {w : World} {K : PySem.W.Frag} {h : Heap} {mg : Str → Option Value} {fa : Addr} (X : K.In h) (G : h.Ns mainGlobals mg) (hfa : mg "law" = some (.ref fa))
    {a0 : Addr} {oc0 : Value} {od0 an0 : Option Addr} {sl0 : Array (Option Value)} {kV0 dc0 pm0 cd0 ct0 : Value}
    (n0 : PySem.W.nsIn K mainGlobals "narrowed" = some (some (.ref a0))) (l0 : K.lookup a0 = some ⟨oc0, od0, .func (PySem.W.fnOf "narrowed" "narrowed" (defArgs s_narrowed) (defBody s_narrowed) (defScope s_narrowed) .none kV0 dc0 pm0 an0 cd0 ct0), sl0⟩) (c0 : PySem.W.codeIn K cd0 "narrowed" = true) (k0 : PySem.W.keepIn K (.ref a0) = true)
    {a1 : Addr} {oc1 : Value} {od1 an1 : Option Addr} {sl1 : Array (Option Value)} {kV1 dc1 pm1 cd1 ct1 : Value}
    (n1 : PySem.W.nsIn K mainGlobals "_law_deck" = some (some (.ref a1))) (l1 : K.lookup a1 = some ⟨oc1, od1, .func (PySem.W.fnOf "_law_deck" "_law_deck" (defArgs s__law_deck) (defBody s__law_deck) (defScope s__law_deck) .none kV1 dc1 pm1 an1 cd1 ct1), sl1⟩) (c1 : PySem.W.codeIn K cd1 "_law_deck" = true) (k1 : PySem.W.keepIn K (.ref a1) = true)
    {a2 : Addr} {oc2 : Value} {od2 an2 : Option Addr} {sl2 : Array (Option Value)} {kV2 dc2 pm2 cd2 ct2 : Value}
    (n2 : PySem.W.nsIn K mainGlobals "_law_take" = some (some (.ref a2))) (l2 : K.lookup a2 = some ⟨oc2, od2, .func (PySem.W.fnOf "_law_take" "_law_take" (defArgs s__law_take) (defBody s__law_take) (defScope s__law_take) .none kV2 dc2 pm2 an2 cd2 ct2), sl2⟩) (c2 : PySem.W.codeIn K cd2 "_law_take" = true) (k2 : PySem.W.keepIn K (.ref a2) = true)
    {a3 : Addr} {oc3 : Value} {od3 an3 : Option Addr} {sl3 : Array (Option Value)} {kV3 dc3 pm3 cd3 ct3 : Value}
    (n3 : PySem.W.nsIn K mainGlobals "_law_whole" = some (some (.ref a3))) (l3 : K.lookup a3 = some ⟨oc3, od3, .func (PySem.W.fnOf "_law_whole" "_law_whole" (defArgs s__law_whole) (defBody s__law_whole) (defScope s__law_whole) .none kV3 dc3 pm3 an3 cd3 ct3), sl3⟩) (c3 : PySem.W.codeIn K cd3 "_law_whole" = true) (k3 : PySem.W.keepIn K (.ref a3) = true)
    {a4 : Addr} {oc4 : Value} {od4 an4 : Option Addr} {sl4 : Array (Option Value)} {kV4 dc4 pm4 cd4 ct4 : Value}
    (n4 : PySem.W.nsIn K mainGlobals "_law_narrowed" = some (some (.ref a4))) (l4 : K.lookup a4 = some ⟨oc4, od4, .func (PySem.W.fnOf "_law_narrowed" "_law_narrowed" (defArgs s__law_narrowed) (defBody s__law_narrowed) (defScope s__law_narrowed) .none kV4 dc4 pm4 an4 cd4 ct4), sl4⟩) (c4 : PySem.W.codeIn K cd4 "_law_narrowed" = true) (k4 : PySem.W.keepIn K (.ref a4) = true)
    {a5 : Addr} {oc5 : Value} {od5 an5 : Option Addr} {sl5 : Array (Option Value)} {kV5 dc5 pm5 cd5 ct5 : Value}
    (n5 : PySem.W.nsIn K mainGlobals "_law_is_empty" = some (some (.ref a5))) (l5 : K.lookup a5 = some ⟨oc5, od5, .func (PySem.W.fnOf "_law_is_empty" "_law_is_empty" (defArgs s__law_is_empty) (defBody s__law_is_empty) (defScope s__law_is_empty) .none kV5 dc5 pm5 an5 cd5 ct5), sl5⟩) (c5 : PySem.W.codeIn K cd5 "_law_is_empty" = true) (k5 : PySem.W.keepIn K (.ref a5) = true)
    {a6 : Addr} {oc6 : Value} {od6 an6 : Option Addr} {sl6 : Array (Option Value)} {kV6 dc6 pm6 cd6 ct6 : Value}
    (n6 : PySem.W.nsIn K mainGlobals "_law_drawn" = some (some (.ref a6))) (l6 : K.lookup a6 = some ⟨oc6, od6, .func (PySem.W.fnOf "_law_drawn" "_law_drawn" (defArgs s__law_drawn) (defBody s__law_drawn) (defScope s__law_drawn) .none kV6 dc6 pm6 an6 cd6 ct6), sl6⟩) (c6 : PySem.W.codeIn K cd6 "_law_drawn" = true) (k6 : PySem.W.keepIn K (.ref a6) = true)
    {a7 : Addr} {oc7 : Value} {od7 an7 : Option Addr} {sl7 : Array (Option Value)} {kV7 dc7 pm7 cd7 ct7 : Value}
    (n7 : PySem.W.nsIn K mainGlobals "_law_is_told" = some (some (.ref a7))) (l7 : K.lookup a7 = some ⟨oc7, od7, .func (PySem.W.fnOf "_law_is_told" "_law_is_told" (defArgs s__law_is_told) (defBody s__law_is_told) (defScope s__law_is_told) .none kV7 dc7 pm7 an7 cd7 ct7), sl7⟩) (c7 : PySem.W.codeIn K cd7 "_law_is_told" = true) (k7 : PySem.W.keepIn K (.ref a7) = true)
    {a8 : Addr} {oc8 : Value} {od8 an8 : Option Addr} {sl8 : Array (Option Value)} {kV8 dc8 pm8 cd8 ct8 : Value}
    (n8 : PySem.W.nsIn K mainGlobals "law" = some (some (.ref a8))) (l8 : K.lookup a8 = some ⟨oc8, od8, .func (PySem.W.fnOf "law" "law" (defArgs s_law) (defBody s_law) (defScope s_law) .none kV8 dc8 pm8 an8 cd8 ct8), sl8⟩) (c8 : PySem.W.codeIn K cd8 "law" = true) (k8 : PySem.W.keepIn K (.ref a8) = true)
    (y_any : PySem.W.nsIn K mainGlobals "any" = some none)
    (y_bool : PySem.W.nsIn K mainGlobals "bool" = some none)
    (y_int : PySem.W.nsIn K mainGlobals "int" = some none)
    (y_isinstance : PySem.W.nsIn K mainGlobals "isinstance" = some none)
    (y_len : PySem.W.nsIn K mainGlobals "len" = some none)
    (y_list : PySem.W.nsIn K mainGlobals "list" = some none)
    (y_max : PySem.W.nsIn K mainGlobals "max" = some none)
    (y_min : PySem.W.nsIn K mainGlobals "min" = some none)
    (y_range : PySem.W.nsIn K mainGlobals "range" = some none)
    (y_sum : PySem.W.nsIn K mainGlobals "sum" = some none)
    (y_tuple : PySem.W.nsIn K mainGlobals "tuple" = some none)
    (y_zip : PySem.W.nsIn K mainGlobals "zip" = some none)
    : ∃ fd : FuncData, (∀ (s : Shared) (v : Value), BindsTo s fd ⟨[v], []⟩ [("_law_script", v)]) ∧ ∀ base : Heap, K.In base → base.Ns mainGlobals mg → BltAt base mg → Codes ["narrowed"] K mg base → FnOk l.prog w K mg base CX0 3 fa fd ["_law_script"] (spM K 1 f_law) := by
  have e := hfa.symm.trans (PySem.W.mg_of X G n8)
  cases e
  have z_any := PySem.W.mg_none_of X G y_any
  have z_bool := PySem.W.mg_none_of X G y_bool
  have z_int := PySem.W.mg_none_of X G y_int
  have z_isinstance := PySem.W.mg_none_of X G y_isinstance
  have z_len := PySem.W.mg_none_of X G y_len
  have z_list := PySem.W.mg_none_of X G y_list
  have z_max := PySem.W.mg_none_of X G y_max
  have z_min := PySem.W.mg_none_of X G y_min
  have z_range := PySem.W.mg_none_of X G y_range
  have z_sum := PySem.W.mg_none_of X G y_sum
  have z_tuple := PySem.W.mg_none_of X G y_tuple
  have z_zip := PySem.W.mg_none_of X G y_zip
  have F0 := fun_mk (st := s_narrowed) l0 c0 k0
  have b0 := F0.binds (ps := ["waits", "windows"]) fun _ _ _ _ _ _ us hl => match us, hl with | [_, _], _ => rfl
  have H0 : FF K mg "narrowed" s_narrowed ["waits", "windows"] _ _ := ⟨F0, PySem.W.mg_of X G n0, b0⟩
  have F1 := fun_mk (st := s__law_deck) l1 c1 k1
  have b1 := F1.binds (ps := ["_law_script"]) fun _ _ _ _ _ _ us hl => match us, hl with | [_], _ => rfl
  have H1 : FF K mg "_law_deck" s__law_deck ["_law_script"] _ _ := ⟨F1, PySem.W.mg_of X G n1, b1⟩
  have F2 := fun_mk (st := s__law_take) l2 c2 k2
  have b2 := F2.binds (ps := ["_law_deck_here", "_law_most"]) fun _ _ _ _ _ _ us hl => match us, hl with | [_, _], _ => rfl
  have H2 : FF K mg "_law_take" s__law_take ["_law_deck_here", "_law_most"] _ _ := ⟨F2, PySem.W.mg_of X G n2, b2⟩
  have F3 := fun_mk (st := s__law_whole) l3 c3 k3
  have b3 := F3.binds (ps := ["_law_thing"]) fun _ _ _ _ _ _ us hl => match us, hl with | [_], _ => rfl
  have H3 : FF K mg "_law_whole" s__law_whole ["_law_thing"] _ _ := ⟨F3, PySem.W.mg_of X G n3, b3⟩
  have F4 := fun_mk (st := s__law_narrowed) l4 c4 k4
  have b4 := F4.binds (ps := ["_law_lags", "_law_spans"]) fun _ _ _ _ _ _ us hl => match us, hl with | [_, _], _ => rfl
  have H4 : FF K mg "_law_narrowed" s__law_narrowed ["_law_lags", "_law_spans"] _ _ := ⟨F4, PySem.W.mg_of X G n4, b4⟩
  have F5 := fun_mk (st := s__law_is_empty) l5 c5 k5
  have b5 := F5.binds (ps := ["_law_spans"]) fun _ _ _ _ _ _ us hl => match us, hl with | [_], _ => rfl
  have H5 : FF K mg "_law_is_empty" s__law_is_empty ["_law_spans"] _ _ := ⟨F5, PySem.W.mg_of X G n5, b5⟩
  have F6 := fun_mk (st := s__law_drawn) l6 c6 k6
  have b6 := F6.binds (ps := ["_law_deck_here"]) fun _ _ _ _ _ _ us hl => match us, hl with | [_], _ => rfl
  have H6 : FF K mg "_law_drawn" s__law_drawn ["_law_deck_here"] _ _ := ⟨F6, PySem.W.mg_of X G n6, b6⟩
  have F7 := fun_mk (st := s__law_is_told) l7 c7 k7
  have b7 := F7.binds (ps := ["_law_found", "_law_due"]) fun _ _ _ _ _ _ us hl => match us, hl with | [_, _], _ => rfl
  have H7 : FF K mg "_law_is_told" s__law_is_told ["_law_found", "_law_due"] _ _ := ⟨F7, PySem.W.mg_of X G n7, b7⟩
  have F8 := fun_mk (st := s_law) l8 c8 k8
  have b8 := F8.binds (ps := ["_law_script"]) fun _ _ _ _ _ _ us hl => match us, hl with | [_], _ => rfl
  have H8 : FF K mg "law" s_law ["_law_script"] _ _ := ⟨F8, PySem.W.mg_of X G n8, b8⟩
  refine ⟨PySem.W.fnOf "law" "law" (defArgs s_law) (defBody s_law) (defScope s_law) .none kV8 dc8 pm8 an8 cd8 ct8, fun s v => .of_eq rfl, fun base _ _ hB hCs => ?_⟩
  have hC0 : CodeT K base cd0 := hCs "narrowed" (by simp) _ _ _ _ _ (PySem.W.mg_of X G n0) l0
  have d_narrowed : Def l.prog w K mg base "narrowed" 2 ["waits", "windows"] f_narrowed := def_of H0 (ok_narrowed F0 hC0 hB z_any z_max z_min z_tuple z_zip)
  have d__law_deck : Def l.prog w K mg base "_law_deck" 1 ["_law_script"] f__law_deck := def_of H1 (ok__law_deck F1 z_len z_list z_sum)
  have d__law_take : Def l.prog w K mg base "_law_take" 1 ["_law_deck_here", "_law_most"] f__law_take := def_of H2 (ok__law_take F2)
  have d__law_whole : Def l.prog w K mg base "_law_whole" 1 ["_law_thing"] f__law_whole := def_of H3 (ok__law_whole F3 z_bool z_int z_isinstance)
  have d__law_narrowed : Def l.prog w K mg base "_law_narrowed" 1 ["_law_lags", "_law_spans"] f__law_narrowed := def_of H4 (ok__law_narrowed F4 z_len z_list z_max z_min z_range z_zip)
  have d__law_is_empty : Def l.prog w K mg base "_law_is_empty" 1 ["_law_spans"] f__law_is_empty := def_of H5 (ok__law_is_empty F5)
  have d__law_drawn : Def l.prog w K mg base "_law_drawn" 2 ["_law_deck_here"] f__law_drawn := def_of H6 (ok__law_drawn F6 d__law_take z_int z_range z_tuple)
  have d__law_is_told : Def l.prog w K mg base "_law_is_told" 2 ["_law_found", "_law_due"] f__law_is_told := def_of H7 (ok__law_is_told F7 d__law_whole z_isinstance z_len z_list z_tuple)
  exact ok_law F8 d__law_deck d__law_drawn d__law_is_empty d__law_is_told d__law_narrowed d_narrowed z_range
theorem all_mkT {l : PySem.W.OpenLaw} {w : World} {K : PySem.W.Frag} {h : Heap} {mg : Str → Option Value} {fa : Addr} (X : K.In h) (G : h.Ns mainGlobals mg) (hfa : mg "law" = some (.ref fa)) {T : List (Addr × Array Value)} (hT : TabsIn K T) (hE : ∀ t ∈ T, t.2 = #[])
    {a0 : Addr} {oc0 : Value} {od0 an0 : Option Addr} {sl0 : Array (Option Value)} {kV0 dc0 pm0 cd0 ct0 : Value}
    (n0 : PySem.W.nsIn K mainGlobals "narrowed" = some (some (.ref a0))) (l0 : K.lookup a0 = some ⟨oc0, od0, .func (PySem.W.fnOf "narrowed" "narrowed" (defArgs s_narrowed) (defBody s_narrowed) (defScope s_narrowed) .none kV0 dc0 pm0 an0 cd0 ct0), sl0⟩) (c0 : PySem.W.codeIn K cd0 "narrowed" = true)
    {a1 : Addr} {oc1 : Value} {od1 an1 : Option Addr} {sl1 : Array (Option Value)} {kV1 dc1 pm1 cd1 ct1 : Value}
    (n1 : PySem.W.nsIn K mainGlobals "_law_deck" = some (some (.ref a1))) (l1 : K.lookup a1 = some ⟨oc1, od1, .func (PySem.W.fnOf "_law_deck" "_law_deck" (defArgs s__law_deck) (defBody s__law_deck) (defScope s__law_deck) .none kV1 dc1 pm1 an1 cd1 ct1), sl1⟩) (c1 : PySem.W.codeIn K cd1 "_law_deck" = true)
    {a2 : Addr} {oc2 : Value} {od2 an2 : Option Addr} {sl2 : Array (Option Value)} {kV2 dc2 pm2 cd2 ct2 : Value}
    (n2 : PySem.W.nsIn K mainGlobals "_law_take" = some (some (.ref a2))) (l2 : K.lookup a2 = some ⟨oc2, od2, .func (PySem.W.fnOf "_law_take" "_law_take" (defArgs s__law_take) (defBody s__law_take) (defScope s__law_take) .none kV2 dc2 pm2 an2 cd2 ct2), sl2⟩) (c2 : PySem.W.codeIn K cd2 "_law_take" = true)
    {a3 : Addr} {oc3 : Value} {od3 an3 : Option Addr} {sl3 : Array (Option Value)} {kV3 dc3 pm3 cd3 ct3 : Value}
    (n3 : PySem.W.nsIn K mainGlobals "_law_whole" = some (some (.ref a3))) (l3 : K.lookup a3 = some ⟨oc3, od3, .func (PySem.W.fnOf "_law_whole" "_law_whole" (defArgs s__law_whole) (defBody s__law_whole) (defScope s__law_whole) .none kV3 dc3 pm3 an3 cd3 ct3), sl3⟩) (c3 : PySem.W.codeIn K cd3 "_law_whole" = true)
    {a4 : Addr} {oc4 : Value} {od4 an4 : Option Addr} {sl4 : Array (Option Value)} {kV4 dc4 pm4 cd4 ct4 : Value}
    (n4 : PySem.W.nsIn K mainGlobals "_law_narrowed" = some (some (.ref a4))) (l4 : K.lookup a4 = some ⟨oc4, od4, .func (PySem.W.fnOf "_law_narrowed" "_law_narrowed" (defArgs s__law_narrowed) (defBody s__law_narrowed) (defScope s__law_narrowed) .none kV4 dc4 pm4 an4 cd4 ct4), sl4⟩) (c4 : PySem.W.codeIn K cd4 "_law_narrowed" = true)
    {a5 : Addr} {oc5 : Value} {od5 an5 : Option Addr} {sl5 : Array (Option Value)} {kV5 dc5 pm5 cd5 ct5 : Value}
    (n5 : PySem.W.nsIn K mainGlobals "_law_is_empty" = some (some (.ref a5))) (l5 : K.lookup a5 = some ⟨oc5, od5, .func (PySem.W.fnOf "_law_is_empty" "_law_is_empty" (defArgs s__law_is_empty) (defBody s__law_is_empty) (defScope s__law_is_empty) .none kV5 dc5 pm5 an5 cd5 ct5), sl5⟩) (c5 : PySem.W.codeIn K cd5 "_law_is_empty" = true)
    {a6 : Addr} {oc6 : Value} {od6 an6 : Option Addr} {sl6 : Array (Option Value)} {kV6 dc6 pm6 cd6 ct6 : Value}
    (n6 : PySem.W.nsIn K mainGlobals "_law_drawn" = some (some (.ref a6))) (l6 : K.lookup a6 = some ⟨oc6, od6, .func (PySem.W.fnOf "_law_drawn" "_law_drawn" (defArgs s__law_drawn) (defBody s__law_drawn) (defScope s__law_drawn) .none kV6 dc6 pm6 an6 cd6 ct6), sl6⟩) (c6 : PySem.W.codeIn K cd6 "_law_drawn" = true)
    {a7 : Addr} {oc7 : Value} {od7 an7 : Option Addr} {sl7 : Array (Option Value)} {kV7 dc7 pm7 cd7 ct7 : Value}
    (n7 : PySem.W.nsIn K mainGlobals "_law_is_told" = some (some (.ref a7))) (l7 : K.lookup a7 = some ⟨oc7, od7, .func (PySem.W.fnOf "_law_is_told" "_law_is_told" (defArgs s__law_is_told) (defBody s__law_is_told) (defScope s__law_is_told) .none kV7 dc7 pm7 an7 cd7 ct7), sl7⟩) (c7 : PySem.W.codeIn K cd7 "_law_is_told" = true)
    {a8 : Addr} {oc8 : Value} {od8 an8 : Option Addr} {sl8 : Array (Option Value)} {kV8 dc8 pm8 cd8 ct8 : Value}
    (n8 : PySem.W.nsIn K mainGlobals "law" = some (some (.ref a8))) (l8 : K.lookup a8 = some ⟨oc8, od8, .func (PySem.W.fnOf "law" "law" (defArgs s_law) (defBody s_law) (defScope s_law) .none kV8 dc8 pm8 an8 cd8 ct8), sl8⟩) (c8 : PySem.W.codeIn K cd8 "law" = true)
    (y_any : PySem.W.nsIn K mainGlobals "any" = some none)
    (y_bool : PySem.W.nsIn K mainGlobals "bool" = some none)
    (y_int : PySem.W.nsIn K mainGlobals "int" = some none)
    (y_isinstance : PySem.W.nsIn K mainGlobals "isinstance" = some none)
    (y_len : PySem.W.nsIn K mainGlobals "len" = some none)
    (y_list : PySem.W.nsIn K mainGlobals "list" = some none)
    (y_max : PySem.W.nsIn K mainGlobals "max" = some none)
    (y_min : PySem.W.nsIn K mainGlobals "min" = some none)
    (y_range : PySem.W.nsIn K mainGlobals "range" = some none)
    (y_sum : PySem.W.nsIn K mainGlobals "sum" = some none)
    (y_tuple : PySem.W.nsIn K mainGlobals "tuple" = some none)
    (y_zip : PySem.W.nsIn K mainGlobals "zip" = some none)
    : ∃ fd : FuncData, (∃ x0 r0, PySem.W.nsIn K mainGlobals x0 = some r0) ∧ (∀ (s : Shared) (v : Value), BindsTo s fd ⟨[v], []⟩ [("_law_script", v)]) ∧ ∀ base : Heap, (cutK K T).In base → base.Ns mainGlobals mg → BltAt base mg → Codes ["narrowed"] (cutK K T) mg base → FnOk l.prog w (cutK K T) mg base CX0 3 fa fd ["_law_script"] (spM (cutK K T) 1 f_law) := by
  obtain ⟨fd, h1, h2⟩ := all_mk (l := l) (w := w) (K := cutK K T) (cut_in hT n8 X) G hfa (cut_ns hT n0) (cut_fn hT l0) (cut_code hT hE c0) (cut_keep hT l0) (cut_ns hT n1) (cut_fn hT l1) (cut_code hT hE c1) (cut_keep hT l1) (cut_ns hT n2) (cut_fn hT l2) (cut_code hT hE c2) (cut_keep hT l2) (cut_ns hT n3) (cut_fn hT l3) (cut_code hT hE c3) (cut_keep hT l3) (cut_ns hT n4) (cut_fn hT l4) (cut_code hT hE c4) (cut_keep hT l4) (cut_ns hT n5) (cut_fn hT l5) (cut_code hT hE c5) (cut_keep hT l5) (cut_ns hT n6) (cut_fn hT l6) (cut_code hT hE c6) (cut_keep hT l6) (cut_ns hT n7) (cut_fn hT l7) (cut_code hT hE c7) (cut_keep hT l7) (cut_ns hT n8) (cut_fn hT l8) (cut_code hT hE c8) (cut_keep hT l8) (cut_ns hT y_any) (cut_ns hT y_bool) (cut_ns hT y_int) (cut_ns hT y_isinstance) (cut_ns hT y_len) (cut_ns hT y_list) (cut_ns hT y_max) (cut_ns hT y_min) (cut_ns hT y_range) (cut_ns hT y_sum) (cut_ns hT y_tuple) (cut_ns hT y_zip)
  exact ⟨fd, ⟨_, _, n8⟩, h1, h2⟩
end Lk33
open PySem PySem.W PyProof.Rows
set_option maxRecDepth 100000 in
set_option maxHeartbeats 0 in
theorem PySem.Challenge.cw_widerows_k33_windows_narrowed_holds : PySem.Challenge.rw_widerows_k33_windows_narrowed.Holds := by
  w_on; o_law; k_head; (case hw => w_witness2)
  k_fill
  refine Mir.law_walkT ["narrowed"] (l := PySem.Challenge.rw_widerows_k33_windows_narrowed) (k := 3) (x := "_law_script") rfl rfl ⟨rfl, by decide, by decide⟩ (by decide +kernel) (fun w h Y => PySem.W.kIn_of Y) ?F Lk33.law_ok
  case F =>
    intro w mg fa h T KX G hmg hT hE
    refine' Lk33.all_mkT KX G hmg hT hE ?n0 ?l0 ?c0 ?n1 ?l1 ?c1 ?n2 ?l2 ?c2 ?n3 ?l3 ?c3 ?n4 ?l4 ?c4 ?n5 ?l5 ?c5 ?n6 ?l6 ?c6 ?n7 ?l7 ?c7 ?n8 ?l8 ?c8 ?y_any ?y_bool ?y_int ?y_isinstance ?y_len ?y_list ?y_max ?y_min ?y_range ?y_sum ?y_tuple ?y_zip
    (case n0 => k_is); (case l0 => k_is); (case c0 => k_is)
    (case n1 => k_is); (case l1 => k_is); (case c1 => k_is)
    (case n2 => k_is); (case l2 => k_is); (case c2 => k_is)
    (case n3 => k_is); (case l3 => k_is); (case c3 => k_is)
    (case n4 => k_is); (case l4 => k_is); (case c4 => k_is)
    (case n5 => k_is); (case l5 => k_is); (case c5 => k_is)
    (case n6 => k_is); (case l6 => k_is); (case c6 => k_is)
    (case n7 => k_is); (case l7 => k_is); (case c7 => k_is)
    (case n8 => k_is); (case l8 => k_is); (case c8 => k_is)
    (case y_any => k_is)
    (case y_bool => k_is)
    (case y_int => k_is)
    (case y_isinstance => k_is)
    (case y_len => k_is)
    (case y_list => k_is)
    (case y_max => k_is)
    (case y_min => k_is)
    (case y_range => k_is)
    (case y_sum => k_is)
    (case y_tuple => k_is)
    (case y_zip => k_is)

